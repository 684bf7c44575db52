import PyProof.Rows.All
import Wide.All
import OpenK.AllK
import Wide.FinOn
import HandS.ForMost
import HandS.IsInst
import HandS.Conv
import PyProof.Rows.MatchSeqLen
import PySem.Challenge.RW_pagewake_k05_values_of_expressions
set_option Elab.async false
set_option maxRecDepth 100000
set_option maxHeartbeats 4000000
set_option linter.all false
namespace Pw
open PySem PySem.Spec PyProof.Rows L2

/-- what a pattern binds: the slot, the value -/
abbrev Bnd := List (Nat × V)
def BndOk (X : Cx) (p : Nat × V) (q : Str × Value) : Prop := X.N[p.1]? = some q.1 ∧ X.env.scope.names.lookup q.1 = some .local ∧ RelV p.2 q.2
def RelB (X : Cx) : Option Bnd → Option (List (Str × Value)) → Prop
  | none, none => True
  | some bs, some us => Paired (BndOk X) bs us
  | _, _ => False
abbrev TPat := V → Hp → (Option Bnd → Prop) → Prop
abbrev TPats := List V → Hp → (Option Bnd → Prop) → Prop
structure PPat (X : Cx) (p : Pattern) (t : TPat) : Prop where
  run : ∀ (pins : List (Addr × Obj)) (s : Shared) (σ : L2.St) (H : Hp) (v : V) (u : Value) (Q : Option Bnd → Prop), Inv X pins σ H s → RelV v u → t v H Q →
    wpAny (model X.prog X.w) X.A (matchPattern p X.env u) (fun r s' => ∃ b, Inv X pins σ H s' ∧ RelB X b r ∧ Q b) X.xe s
structure PPats (X : Cx) (ps : List Pattern) (t : TPats) : Prop where
  run : ∀ (pins : List (Addr × Obj)) (s : Shared) (σ : L2.St) (H : Hp) (vs : List V) (us : List Value) (Q : Option Bnd → Prop), Inv X pins σ H s → Vals vs us → t vs H Q →
    wpAny (model X.prog X.w) X.A (matchEach ps X.env us) (fun r s' => ∃ b, Inv X pins σ H s' ∧ RelB X b r ∧ Q b) X.xe s
theorem Paired.appendP {α β : Type} {F : α → β → Prop} : ∀ {a : List α} {b : List β} {c : List α} {d : List β}, Paired F a b → Paired F c d → Paired F (a ++ c) (b ++ d)
  | _, _, _, _, .nil, q => q
  | _, _, _, _, .cons r t, q => .cons r (Paired.appendP t q)
section
variable {X : Cx}
def tPName (i : Nat) : TPat := fun v _ Q => Q (some [(i, v)])
theorem pp_name (i : Nat) {x : Str} {pos : Pos} (hN : X.N[i]? = some x := by rfl) (hx : X.env.scope.names.lookup x = some .local := by rfl) : PPat X (.MatchAs none (some x) pos) (tPName i) := by
  refine ⟨fun pins s σ H v u Q I r h => ?_⟩
  exact wpAny_matchPattern_Capture ⟨some [(i, v)], I, (show Paired (BndOk X) [(i, v)] [(x, u)] from .cons ⟨hN, hx, r⟩ .nil), h⟩
def tPAny : TPat := fun _ _ Q => Q (some [])
theorem pp_any {pos : Pos} : PPat X (.MatchAs none none pos) tPAny := by
  refine ⟨fun pins s σ H v u Q I r h => ?_⟩
  exact wpAny_matchPattern_Capture ⟨some [], I, (show Paired (BndOk X) [] [] from .nil), h⟩
/-- a written text -/
def tPStr (x : Str) : TPat := fun v _ Q => ∃ z, v = .str z ∧ Q (if z = x then some [] else none)
theorem pp_str {x : Str} {j : Nat} {p1 pos : Pos} : PPat X (.MatchValue (.Constant (.str x) j p1) pos) (tPStr x) := by
  refine ⟨fun pins s σ H v u Q I r h => ?_⟩
  obtain ⟨z, rfl, q⟩ := h
  obtain ⟨t, rfl⟩ := r
  refine wpAny_matchPattern_Value (Calls.Constant_str (PyProof.Rows.eq_str (wpAny_truthy_bool ?_)))
  have I' := I.tok (s.toks + 1)
  by_cases e : z = x
  · subst e
    have e2 : (z == z) = true := by simp
    rw [if_pos e2]
    rw [if_pos rfl] at q
    exact ⟨some [], I', (show Paired (BndOk X) [] [] from .nil), q⟩
  · have e2 : ¬ (z == x) = true := fun h => e (by simpa using h)
    rw [if_neg e2]
    rw [if_neg e] at q
    exact ⟨none, I', trivial, q⟩
def tPNil : TPats := fun _ _ Q => Q (some [])
theorem pps_nil' : PPats X [] tPNil := ⟨fun pins s σ H vs us Q I r h => wpAny_matchEach_nil ⟨some [], I, (show Paired (BndOk X) [] [] from .nil), h⟩⟩
def tPCons (t : TPat) (u : TPats) : TPats := fun vs H Q => ∃ v r, vs = v :: r ∧ t v H fun b => match b with
  | none => Q none
  | some bs => u r H fun c => match c with
    | none => Q none
    | some cs => Q (some (bs ++ cs))
theorem pps_cons' {p : Pattern} {ps : List Pattern} {t : TPat} {u : TPats} (h1 : PPat X p t) (h2 : PPats X ps u) (hp : p.isStar = false := by rfl) : PPats X (p :: ps) (tPCons t u) := by
  refine ⟨fun pins s σ H vs us Q I r h => ?_⟩
  obtain ⟨v, w, rfl, h⟩ := h
  cases r with
  | cons r rr =>
    refine wpAny_matchEach_cons (thn (h1.run pins s σ H _ _ _ I r h) fun a s1 ⟨b, I1, rb, q⟩ => ?_) hp
    cases b with
    | none =>
      cases a with
      | none => exact ⟨none, I1, trivial, q⟩
      | some us => exact rb.elim
    | some bs =>
      cases a with
      | none => exact rb.elim
      | some us =>
        refine thn (h2.run pins s1 σ H _ _ _ I1 rr q) fun a2 s2 ⟨c, I2, rc, q2⟩ => ?_
        cases c with
        | none =>
          cases a2 with
          | none => exact ⟨none, I2, trivial, q2⟩
          | some _ => exact rc.elim
        | some cs =>
          cases a2 with
          | none => exact rc.elim
          | some ws => exact ⟨some (bs ++ cs), I2, Paired.appendP rb rc, q2⟩
/-- a sequence pattern at a tuple -/
def tPSeq (K : PySem.W.Frag) (n : Nat) (t : TPats) : TPat := fun v H Q => ∃ a xs, v = .ref a ∧ SqT K H a xs ∧ if xs.length = n then t xs H Q else Q none
theorem pp_seq {ps : List Pattern} {pos : Pos} {t : TPats} {n : Nat} (hc : X.calm = true) (h : PPats X ps t) (hn : ps.length = n := by rfl) (hstar : ps.findIdx? (·.isStar) = none := by rfl)
    (hwild : (ps.all fun p => p.isWildcard || (p.isStar && p.names.isEmpty)) = false := by rfl) : PPat X (.MatchSequence ps pos) (tPSeq X.K n t) := by
  refine ⟨fun pins s σ H v u Q I r hw => ?_⟩
  obtain ⟨a, xs, rfl, hq, hw⟩ := hw
  obtain rfl : u = Value.ref a := r
  obtain ⟨its, rv, ht, hz⟩ := I.tuple hq
  have el := rv.length
  have hfit : ((its.toArray.size : Nat) : Int) < 2 ^ 63 := by
    have hs : sizeLine ≤ 2 ^ 62 := by decide
    simp only [List.size_toArray]
    omega
  by_cases e : xs.length = n
  · rw [if_pos e] at hw
    have e2 : its.toArray.size = ps.length := by simp only [List.size_toArray]; omega
    refine matchSeq_tuple_hit ht hfit e2 ?_ hstar hwild
    rw [← e2]
    refine unpackItems_tuple (I.ok.hd hc) (by exact ht) fun h' hx => ?_
    have I1 : Inv X pins σ H { s with heap := h', toks := s.toks + 1 + 1 } := I.kept fun b o q => hx b o (Nat.ne_of_lt (Heap.lt_size q)) q
    exact h.run pins _ σ H xs _ Q I1 (by simpa using rv) hw
  · rw [if_neg e] at hw
    have e2 : its.toArray.size ≠ ps.length := by simp only [List.size_toArray]; omega
    exact matchSeq_tuple_miss ht hfit e2 ⟨none, I.tok _, trivial, hw⟩ hstar hwild
/-! ### cases -/
abbrev TCs := V → Ends → L2.St → Hp → Prop
structure PCs (X : Cx) (cs : List MatchCase) (t : TCs) : Prop where
  run : ∀ (first : Bool) (pins : List (Addr × Obj)) (s : Shared) (σ : L2.St) (H : Hp) (D : Ends) (v : V) (u : Value), Inv X pins σ H s → RelV v u → t v D σ H →
    wpAny (model X.prog X.w) X.A (matchCases cs X.env u first) (SP X pins D) X.xe s
def setAll (σ : L2.St) : Bnd → L2.St
  | [] => σ
  | p :: r => setAll (σ.set p.1 (some p.2)) r
def tCsNil : TCs := fun _ D σ H => D.nx σ H
theorem pcs_nil : PCs X [] tCsNil := ⟨fun _ pins s σ H D v u I r h => wpAny_matchCases_nil ⟨σ, H, I, h⟩⟩
def tCase (t : TPat) (tb : TS) (tr : TCs) : TCs := fun v D σ H => t v H fun b => match b with
  | none => tr v D σ H
  | some bs => tb D (setAll σ bs) H
theorem assign_bnd (hN : X.N.Nodup) : ∀ {bs : Bnd} {us : List (Str × Value)} {pins : List (Addr × Obj)} {s : Shared} {σ : L2.St} {H : Hp} {Q : Unit → Shared → Prop}, Paired (BndOk X) bs us → Inv X pins σ H s → (∀ s', Inv X pins (setAll σ bs) H s' → Q () s') →
    wpAny (model X.prog X.w) X.A (assignInOrder (us.map fun (n, _) => bindName X.env n) (us.map (·.2))) Q X.xe s
  | _, _, _, s, _, _, _, .nil, I, h => assignInOrder_nil (h s I)
  | p :: bs, q :: us, pins, s, σ, H, Q, .cons r t, I, h => by
    obtain ⟨h1, h2, h3⟩ := r
    exact assignInOrder_cons (wpAny_bindName (store_ok I hN h1 (.inl h2) h3 (fun s' I' => assign_bnd hN t I' fun s2 I2 => h s2 I2) (.inr h2)))
theorem pcs_cons {p : Pattern} {body : List Stmt} {rest : List MatchCase} {t : TPat} {tb : TS} {tr : TCs} (hN : X.N.Nodup) (hp : PPat X p t) (hb : PSs X body tb) (hr : PCs X rest tr) : PCs X (⟨p, none, body⟩ :: rest) (tCase t tb tr) := by
  refine ⟨fun first pins s σ H D v u I r h => ?_⟩
  refine wpAny_matchCases_cons (thn (hp.run pins s σ H v u _ I r h) fun a s1 ⟨b, I1, rb, q⟩ => ?_)
  cases b with
  | none =>
    cases a with
    | none => exact hr.run false pins s1 σ H D v u I1 r q
    | some _ => exact rb.elim
  | some bs =>
    cases a with
    | none => exact rb.elim
    | some us => exact assign_bnd hN rb I1 fun s2 I2 => hb.run pins s2 _ H D I2 q
def tMatch (te : TE) (tc : TCs) : TS := fun D σ H => te σ H fun x H1 => tc x D σ H1
theorem ps_match {e : Expr} {cs : List MatchCase} {pos : Pos} {te : TE} {tc : TCs} (he : PE X e te) (hc : PCs X cs tc) : PS X (.Match e cs pos) (tMatch te tc) := by
  refine ⟨fun pins s σ H D I h => ?_⟩
  exact wpAny_Match (thn (he.run pins s σ H _ I h) fun v s1 ⟨x, H1, I1, r1, q1⟩ => hc.run true pins s1 σ H1 D x v I1 r1 q1)
end
end Pw
namespace Pw
open PySem PySem.Spec PyProof.Rows L2
/-! ### heaps -/
/-- all but S is as it was; tuples never change -/
structure Oth (S : List Addr) (H H' : Hp) : Prop where
  keep : ∀ a o, a ∉ S → H a = some o → H' a = some o
  tup : ∀ a xs, H a = some (.tup xs) → H' a = some (.tup xs)
section
variable {S S' : List Addr} {H H' H2 : Hp} {p b : Addr} {o : HO} {xs : List V}
theorem Oth.refl : Oth S H H := ⟨fun _ _ _ h => h, fun _ _ h => h⟩
theorem Oth.trans (x : Oth S H H') (y : Oth S H' H2) : Oth S H H2 := ⟨fun a o n h => y.keep a o n (x.keep a o n h), fun a xs h => y.tup a xs (x.tup a xs h)⟩
theorem Oth.new (h : H p = none) : Oth S H (upd H p o) := ⟨fun a o' _ q => by rw [upd_ne (ne_of_none q h)]; exact q, fun a xs q => by rw [upd_ne (ne_of_none q h)]; exact q⟩
theorem Oth.put (hb : b ∈ S) (h : H b = some (.lst xs)) : Oth S H (upd H b o) :=
  ⟨fun a o' n q => by rw [upd_ne (fun e => n (by rw [e]; exact hb))]; exact q, fun a xs q => by rw [upd_ne (ne_of q h (by intro z; cases z))]; exact q⟩
theorem Oth.mono (x : Oth S H H') (h : ∀ a ∈ S, a ∈ S') : Oth S' H H' := ⟨fun a o n => x.keep a o fun z => n (h a z), x.tup⟩
/-- what was not there may be forgotten -/
theorem Oth.drop (x : Oth (p :: S) H H') (h : H p = none) : Oth S H H' :=
  ⟨fun a o n q => x.keep a o (fun z => (List.mem_cons.mp z).elim (fun e => by rw [e, h] at q; cases q) n) q, x.tup⟩
theorem Oth.drop2 (x : Oth (b :: p :: S) H H') (h : H p = none) : Oth (b :: S) H H' :=
  Oth.drop (p := p) (x.mono fun a z => by simp only [List.mem_cons] at z ⊢; rcases z with z | z | z <;> simp [z]) h
theorem Oth.ne (x : Oth S H H') (h : H' p = none) (hb : b ∉ S) (q : H b = some o) : b ≠ p := ne_of_none (x.keep b o hb q) h
theorem Oth.lst (x : Oth S H H') (hb : b ∉ S) (q : H b = some (.lst xs)) : H' b = some (.lst xs) := x.keep b _ hb q
theorem Oth.sqT {K : PySem.W.Frag} (x : Oth S H H') (h : H b = some (.tup xs)) : SqT K H' b xs := SqT.of (x.tup b xs h)
end
/-! ### data that never change -/
inductive T where
  | non | bl (b : Bool) | int (i : Int) | str (s : Str) | tup (ts : List T)
inductive IsT (H : Hp) : T → V → Prop
  | non : IsT H .non .non
  | bl (b : Bool) : IsT H (.bl b) (.bl b)
  | int (i : Int) : IsT H (.int i) (.int i)
  | str (s : Str) : IsT H (.str s) (.str s)
  | tup {a : Addr} {xs : List V} {ts : List T} : H a = some (.tup xs) → xs.length = ts.length → (∀ (i : Nat) (t : T) (x : V), ts[i]? = some t → xs[i]? = some x → IsT H t x) → IsT H (.tup ts) (.ref a)
section
variable {H H' : Hp} {S : List Addr} {a : Addr} {xs : List V} {ts : List T} {t : T} {v : V}
theorem IsT.oth (h : IsT H t v) (o : Oth S H H') : IsT H' t v := by
  induction h with
  | non => exact .non
  | bl b => exact .bl b
  | int i => exact .int i
  | str s => exact .str s
  | tup e l _ ih => exact .tup (o.tup _ _ e) l ih
theorem paired_of : ∀ {ts : List T} {xs : List V}, xs.length = ts.length → (∀ (i : Nat) (t : T) (x : V), ts[i]? = some t → xs[i]? = some x → IsT H t x) → Paired (IsT H) ts xs
  | [], [], _, _ => .nil
  | [], _ :: _, l, _ => by cases l
  | _ :: _, [], l, _ => by cases l
  | t :: ts, x :: xs, l, h => .cons (h 0 t x rfl rfl) (paired_of (Nat.succ.inj l) fun i t' x' e1 e2 => h (i + 1) t' x' e1 e2)
theorem paired_get : ∀ {ts : List T} {xs : List V}, Paired (IsT H) ts xs → xs.length = ts.length ∧ ∀ (i : Nat) (t : T) (x : V), ts[i]? = some t → xs[i]? = some x → IsT H t x
  | _, _, .nil => ⟨rfl, fun i t x e => by simp at e⟩
  | _, _, .cons r q => by
    obtain ⟨l, h⟩ := paired_get q
    refine ⟨congrArg (· + 1) l, fun i t x e1 e2 => ?_⟩
    cases i with
    | zero => cases e1; cases e2; exact r
    | succ i => exact h i t x e1 e2
theorem IsT.inv (h : IsT H (.tup ts) v) : ∃ a xs, v = .ref a ∧ H a = some (.tup xs) ∧ Paired (IsT H) ts xs := by
  cases h with
  | tup e l q => exact ⟨_, _, rfl, e, paired_of l q⟩
theorem IsT.mk (e : H a = some (.tup xs)) (q : Paired (IsT H) ts xs) : IsT H (.tup ts) (.ref a) := .tup e (paired_get q).1 (paired_get q).2
theorem paired_oth : ∀ {ts : List T} {xs : List V}, Paired (IsT H) ts xs → Oth S H H' → Paired (IsT H') ts xs
  | _, _, .nil, _ => .nil
  | _, _, .cons r q, o => .cons (r.oth o) (paired_oth q o)
theorem paired_app {us : List T} {ys : List V} (p : Paired (IsT H) ts xs) (q : Paired (IsT H) us ys) : Paired (IsT H) (ts ++ us) (xs ++ ys) := Paired.appendP p q
theorem paired_int : ∀ {ns : List Int} {xs : List V}, Paired (IsT H) (ns.map T.int) xs → xs = ns.map V.int
  | [], _, .nil => rfl
  | n :: ns, _, .cons r q => by
    cases r
    rw [paired_int q]
    rfl
theorem int_paired : ∀ (ns : List Int), Paired (IsT H) (ns.map T.int) (ns.map V.int)
  | [] => .nil
  | n :: ns => .cons (.int n) (int_paired ns)
theorem IsT.ints {ns : List Int} (h : IsT H (.tup (ns.map T.int)) v) : ∃ a, v = .ref a ∧ H a = some (.tup (ns.map V.int)) := by
  obtain ⟨a, xs, rfl, e, p⟩ := h.inv
  rw [paired_int p] at e
  exact ⟨a, rfl, e⟩
theorem IsT.of_int {i : Int} (h : IsT H (.int i) v) : v = .int i := by cases h; rfl
theorem IsT.of_str {s : Str} (h : IsT H (.str s) v) : v = .str s := by cases h; rfl
theorem IsT.of_non (h : IsT H .non v) : v = .non := by cases h; rfl
theorem IsT.inv1 {t1 : T} (h : IsT H (.tup [t1]) v) : ∃ a x1, v = .ref a ∧ H a = some (.tup [x1]) ∧ IsT H t1 x1 := by
  obtain ⟨a, xs, rfl, e, p⟩ := h.inv
  cases p with | cons p1 p => cases p; exact ⟨a, _, rfl, e, p1⟩
theorem IsT.inv2 {t1 t2 : T} (h : IsT H (.tup [t1, t2]) v) : ∃ a x1 x2, v = .ref a ∧ H a = some (.tup [x1, x2]) ∧ IsT H t1 x1 ∧ IsT H t2 x2 := by
  obtain ⟨a, xs, rfl, e, p⟩ := h.inv
  cases p with | cons p1 p => cases p with | cons p2 p => cases p; exact ⟨a, _, _, rfl, e, p1, p2⟩
theorem IsT.inv3 {t1 t2 t3 : T} (h : IsT H (.tup [t1, t2, t3]) v) : ∃ a x1 x2 x3, v = .ref a ∧ H a = some (.tup [x1, x2, x3]) ∧ IsT H t1 x1 ∧ IsT H t2 x2 ∧ IsT H t3 x3 := by
  obtain ⟨a, xs, rfl, e, p⟩ := h.inv
  cases p with | cons p1 p => cases p with | cons p2 p => cases p with | cons p3 p => cases p; exact ⟨a, _, _, _, rfl, e, p1, p2, p3⟩
theorem IsT.inv4 {t1 t2 t3 t4 : T} (h : IsT H (.tup [t1, t2, t3, t4]) v) : ∃ a x1 x2 x3 x4, v = .ref a ∧ H a = some (.tup [x1, x2, x3, x4]) ∧ IsT H t1 x1 ∧ IsT H t2 x2 ∧ IsT H t3 x3 ∧ IsT H t4 x4 := by
  obtain ⟨a, xs, rfl, e, p⟩ := h.inv
  cases p with | cons p1 p => cases p with | cons p2 p => cases p with | cons p3 p => cases p with | cons p4 p => cases p; exact ⟨a, _, _, _, _, rfl, e, p1, p2, p3, p4⟩
theorem IsT.inv5 {t1 t2 t3 t4 t5 : T} (h : IsT H (.tup [t1, t2, t3, t4, t5]) v) : ∃ a x1 x2 x3 x4 x5, v = .ref a ∧ H a = some (.tup [x1, x2, x3, x4, x5]) ∧ IsT H t1 x1 ∧ IsT H t2 x2 ∧ IsT H t3 x3 ∧ IsT H t4 x4 ∧ IsT H t5 x5 := by
  obtain ⟨a, xs, rfl, e, p⟩ := h.inv
  cases p with | cons p1 p => cases p with | cons p2 p => cases p with | cons p3 p => cases p with | cons p4 p => cases p with | cons p5 p => cases p; exact ⟨a, _, _, _, _, _, rfl, e, p1, p2, p3, p4, p5⟩
theorem IsT.mk1 {t1 : T} {x1 : V} (e : H a = some (.tup [x1])) (p1 : IsT H t1 x1) : IsT H (.tup [t1]) (.ref a) := .mk e (.cons p1 .nil)
theorem IsT.mk2 {t1 t2 : T} {x1 x2 : V} (e : H a = some (.tup [x1, x2])) (p1 : IsT H t1 x1) (p2 : IsT H t2 x2) : IsT H (.tup [t1, t2]) (.ref a) := .mk e (.cons p1 (.cons p2 .nil))
theorem IsT.mk3 {t1 t2 t3 : T} {x1 x2 x3 : V} (e : H a = some (.tup [x1, x2, x3])) (p1 : IsT H t1 x1) (p2 : IsT H t2 x2) (p3 : IsT H t3 x3) : IsT H (.tup [t1, t2, t3]) (.ref a) := .mk e (.cons p1 (.cons p2 (.cons p3 .nil)))
theorem IsT.mk4 {t1 t2 t3 t4 : T} {x1 x2 x3 x4 : V} (e : H a = some (.tup [x1, x2, x3, x4])) (p1 : IsT H t1 x1) (p2 : IsT H t2 x2) (p3 : IsT H t3 x3) (p4 : IsT H t4 x4) : IsT H (.tup [t1, t2, t3, t4]) (.ref a) := .mk e (.cons p1 (.cons p2 (.cons p3 (.cons p4 .nil))))
theorem IsT.mk5 {t1 t2 t3 t4 t5 : T} {x1 x2 x3 x4 x5 : V} (e : H a = some (.tup [x1, x2, x3, x4, x5])) (p1 : IsT H t1 x1) (p2 : IsT H t2 x2) (p3 : IsT H t3 x3) (p4 : IsT H t4 x4) (p5 : IsT H t5 x5) : IsT H (.tup [t1, t2, t3, t4, t5]) (.ref a) := .mk e (.cons p1 (.cons p2 (.cons p3 (.cons p4 (.cons p5 .nil)))))
end
/-! ### ways that meet behind a statement -/
section
variable {X : Cx} {st : Stmt} {rest : List Stmt} {t u : TS}
def tCut (t u : TS) : TS := fun D σ H => ∃ Mid : L2.St → Hp → Prop, t { D with nx := Mid } σ H ∧ ∀ σ' H', Mid σ' H' → u D σ' H'
theorem pss_cut (h1 : PS X st t) (h2 : PSs X rest u) : PSs X (st :: rest) (tCut t u) := by
  refine ⟨fun pins s σ H D I h => ?_⟩
  obtain ⟨Mid, h, hm⟩ := h
  refine wpAny_execs_cons (thn (h1.run pins s σ H { D with nx := Mid } I h) fun f s1 q => ?_)
  cases f with
  | next =>
    obtain ⟨σ', H', I', q⟩ := q
    exact h2.run pins s1 σ' H' D I' (hm _ _ q)
  | ret v => exact q
  | brk => exact q
  | cont => exact q
end
theorem Oth.sqL {K : PySem.W.Frag} {H H' : Hp} {S : List Addr} {a : Addr} {xs : List V} (x : Oth S H H') (n : a ∉ S) (h : SqL K H a xs) : SqL K H' a xs := by
  rcases h with (h | ⟨o, h⟩) | h
  · exact .inl (.inl (x.keep _ _ n h))
  · exact .inl (.inr ⟨o, x.keep _ _ n h⟩)
  · exact .inr h
/-! ### cases of a match -/
section
variable {K : PySem.W.Frag} {H : Hp} {a : Addr} {n : Nat} {z x : Str} {r : List V} {u : TPats} {tb : TS} {tr : TCs} {D : Ends} {σ : L2.St}
theorem case_skip (h : SqT K H a (.str z :: r)) (hz : z ≠ x) (q : tr (.ref a) D σ H) : tCase (tPSeq K n (tPCons (tPStr x) u)) tb tr (.ref a) D σ H := by
  refine ⟨a, _, rfl, h, ?_⟩
  by_cases e : (V.str z :: r).length = n
  · rw [if_pos e]
    refine ⟨_, _, rfl, z, rfl, ?_⟩
    rw [if_neg hz]
    exact q
  · rw [if_neg e]
    exact q
theorem case_len (h : SqT K H a r) (hz : r.length ≠ n) (q : tr (.ref a) D σ H) : tCase (tPSeq K n u) tb tr (.ref a) D σ H := by
  refine ⟨a, _, rfl, h, ?_⟩
  rw [if_neg hz]
  exact q
theorem case_hit (h : SqT K H a (.str x :: r)) (hl : r.length + 1 = n) (q : u r H fun c => match c with
    | none => tr (.ref a) D σ H
    | some bs => tb D (setAll σ bs) H) : tCase (tPSeq K n (tPCons (tPStr x) u)) tb tr (.ref a) D σ H := by
  refine ⟨a, _, rfl, h, ?_⟩
  rw [if_pos (show (V.str x :: r).length = n from hl)]
  refine ⟨_, _, rfl, x, rfl, ?_⟩
  rw [if_pos rfl]
  exact q
end
end Pw
namespace Pw
open PySem PySem.Spec PyProof.Rows L2
/-! ### expressions -/
inductive E where
  | num (n : Int) | cell (i : Nat) | prop (i : Nat) | store (i : Nat) | index
  | plus (a b : E) | minus (a b : E) | same (a b : E) | less (a b : E) | ite (c a b : E)
def E.toT : E → T
  | .num n => .tup [.str "num", .int n]
  | .cell i => .tup [.str "cell", .int (i : Int)]
  | .prop i => .tup [.str "prop", .int (i : Int)]
  | .store i => .tup [.str "store", .int (i : Int)]
  | .index => .tup [.str "index"]
  | .plus a b => .tup [.str "plus", a.toT, b.toT]
  | .minus a b => .tup [.str "minus", a.toT, b.toT]
  | .same a b => .tup [.str "same", a.toT, b.toT]
  | .less a b => .tup [.str "less", a.toT, b.toT]
  | .ite c a b => .tup [.str "if", c.toT, a.toT, b.toT]
def E.depth : E → Nat
  | .plus a b | .minus a b | .same a b | .less a b => max a.depth b.depth + 1
  | .ite c a b => max c.depth (max a.depth b.depth) + 1
  | _ => 0
def E.size : E → Nat
  | .plus a b | .minus a b | .same a b | .less a b => a.size + b.size
  | .ite c a b => c.size + a.size + b.size
  | _ => 1
structure Sc where
  cells : List Int
  props : List Int
  store : List Int
  index : Int
def Sc.toT (c : Sc) : T := .tup [.str "scope", .tup (c.cells.map .int), .tup (c.props.map .int), .tup (c.store.map .int), .int c.index]
def E.val (c : Sc) : E → Int
  | .num n => n
  | .cell i => c.cells.getD i 0
  | .prop i => c.props.getD i 0
  | .store i => c.store.getD i 0
  | .index => c.index
  | .plus a b => (a.val c + b.val c) % 1000
  | .minus a b => (a.val c - b.val c) % 1000
  | .same a b => if a.val c = b.val c then 1 else 0
  | .less a b => if a.val c < b.val c then 1 else 0
  | .ite q a b => if q.val c = 0 then b.val c else a.val c
def E.looks (c : Sc) : E → List Int
  | .store i => if i < c.store.length then [(i : Int)] else []
  | .plus a b | .minus a b | .same a b | .less a b => a.looks c ++ b.looks c
  | .ite q a b => q.looks c ++ if q.val c = 0 then b.looks c else a.looks c
  | _ => []
theorem E.size_pos : ∀ e : E, 1 ≤ e.size
  | .plus a b | .minus a b | .same a b | .less a b => by have := E.size_pos a; simp only [E.size]; omega
  | .ite q a b => by have := E.size_pos q; simp only [E.size]; omega
  | .num _ | .cell _ | .prop _ | .store _ | .index => by simp [E.size]
theorem E.looks_le (c : Sc) : ∀ e : E, (e.looks c).length ≤ e.size
  | .plus a b | .minus a b | .same a b | .less a b => by
    have h1 := E.looks_le c a
    have h2 := E.looks_le c b
    simp only [E.looks, E.size, List.length_append]
    omega
  | .ite q a b => by
    have h0 := E.looks_le c q
    have h1 := E.looks_le c a
    have h2 := E.looks_le c b
    simp only [E.looks, E.size, List.length_append]
    split <;> omega
  | .store i => by
    simp only [E.looks, E.size]
    split <;> simp
  | .num _ | .cell _ | .prop _ | .index => by simp [E.looks]
theorem getD_of {xs : List Int} {i : Nat} (h : i < xs.length) : (xs.map V.int)[i]? = some (.int (xs.getD i 0)) := by
  rw [List.getElem?_map, List.getElem?_eq_getElem h, List.getD_eq_getElem?_getD, List.getElem?_eq_getElem h]
  rfl
theorem getD_out {xs : List Int} {i : Nat} (h : ¬ i < xs.length) : xs.getD i 0 = 0 := by
  rw [List.getD_eq_getElem?_getD, List.getElem?_eq_none (by omega)]
  rfl
/-! ### what the defs promise -/
def spThere (K : PySem.W.Frag) : Sp := fun vs H Q _ => ∃ (a : Addr) (xs : List Int) (i : Nat), vs = [.ref a, .int (i : Int)] ∧ SqT K H a (xs.map V.int) ∧ Q (.bl (decide (i < xs.length))) H
def spItem (K : PySem.W.Frag) : Sp := fun vs H Q _ => ∃ (a : Addr) (xs : List Int) (i : Nat), vs = [.ref a, .int (i : Int)] ∧ SqT K H a (xs.map V.int) ∧ Q (.int (xs.getD i 0)) H
def spValue (n : Nat) : Sp := fun vs H Q _ => ∃ (e : E) (c : Sc) (ve vc : V) (l : Addr) (L : List V), vs = [ve, vc, .ref l] ∧ IsT H e.toT ve ∧ IsT H c.toT vc ∧ H l = some (.lst L) ∧ e.depth < n ∧ L.length + e.size ≤ 100000 ∧
  ∀ H', H' l = some (.lst (L ++ (e.looks c).map V.int)) → Oth [l] H H' → Q (.int (e.val c)) H'
end Pw
namespace Pw
open PySem PySem.Spec PyProof.Rows L2
theorem bo_int : bootBuiltins "int" = some (.type "int") := by decide +kernel
theorem bo_isi : bootBuiltins "isinstance" = some (.builtin "isinstance") := by decide +kernel
theorem bo_tuple : bootBuiltins "tuple" = some (.type "tuple") := by decide +kernel
theorem bo_bool : bootBuiltins "bool" = some (.type "bool") := by decide +kernel
theorem bo_str : bootBuiltins "str" = some (.type "str") := by decide +kernel
/-! ### what the law's own helpers promise -/
def spCell' (K : PySem.W.Frag) : Sp := fun vs H Q _ => ∃ (a : Addr) (ns : List Int) (j : Nat), vs = [.ref a, .int (j : Int)] ∧ SqL K H a (ns.map V.int) ∧ ∀ x : Int, Q (.int x) H
def spDigits (K : PySem.W.Frag) : Sp := fun vs H Q _ => ∃ (a : Addr) (ns : List Int) (i j : Nat), vs = [.ref a, .int (i : Int), .int (j : Int)] ∧ SqL K H a (ns.map V.int) ∧ i ≤ 100 ∧ j ≤ 100 ∧
  ∀ (p : Addr) (H' : Hp) (ds : List Int), H p = none → Oth [] H H' → H' p = some (.lst (ds.map V.int)) → Q (.ref p) H'
/-- the law's box: its digits, how many are drawn, what else stands in it -/
def Box (H : Hp) (b d : Addr) (rest : List V) : Prop := ∃ (ds : List Int) (at' : Nat), H b = some (.lst (.ref d :: .int (at' : Int) :: rest)) ∧ H d = some (.lst (ds.map V.int))
def spDraw : Sp := fun vs H Q _ => ∃ (b d : Addr) (m : Int) (rest : List V), vs = [.ref b, .int m] ∧ 0 < m ∧ Box H b d rest ∧
  ∀ (r : Int) (H' : Hp), 0 ≤ r → r < m → Box H' b d rest → Oth [b] H H' → Q (.int r) H'
theorem Box.new {H : Hp} {b d p : Addr} {rest : List V} {o : HO} (h : Box H b d rest) (n : H p = none) : Box (upd H p o) b d rest := by
  obtain ⟨ds, at', h1, h2⟩ := h
  exact ⟨ds, at', by rw [upd_ne (ne_of_none h1 n)]; exact h1, by rw [upd_ne (ne_of_none h2 n)]; exact h2⟩
theorem Box.put {H : Hp} {b d p : Addr} {rest : List V} {o : HO} (h : Box H b d rest) (nb : b ≠ p) (nd : d ≠ p) : Box (upd H p o) b d rest := by
  obtain ⟨ds, at', h1, h2⟩ := h
  exact ⟨ds, at', by rw [upd_ne nb]; exact h1, by rw [upd_ne nd]; exact h2⟩
theorem Box.is {H : Hp} {b d : Addr} {rest : List V} (h : Box H b d rest) : ∃ xs, H b = some (.lst xs) := by
  obtain ⟨ds, at', h1, h2⟩ := h
  exact ⟨_, h1⟩
theorem Box.nb {H : Hp} {b d p : Addr} {rest : List V} (h : Box H b d rest) (n : H p = none) : b ≠ p := by
  obtain ⟨ds, at', h1, h2⟩ := h
  exact ne_of_none h1 n
theorem Box.nd {H : Hp} {b d p : Addr} {rest : List V} (h : Box H b d rest) (n : H p = none) : d ≠ p := by
  obtain ⟨ds, at', h1, h2⟩ := h
  exact ne_of_none h2 n
theorem Box.oth {S : List Addr} {H H' : Hp} {b d : Addr} {rest : List V} (h : Box H b d rest) (o : Oth S H H') (nb : b ∉ S) (nd : d ∉ S) : Box H' b d rest := by
  obtain ⟨ds, at', h1, h2⟩ := h
  exact ⟨ds, at', o.keep _ _ nb h1, o.keep _ _ nd h2⟩
end Pw
namespace Pw
open PySem PySem.Spec PyProof.Rows L2
/-- data of at most so many levels, no row over 100,000 -/
inductive Dep : Nat → T → Prop
  | non (n : Nat) : Dep (n + 1) .non
  | int (n : Nat) (i : Int) : Dep (n + 1) (.int i)
  | str (n : Nat) (s : Str) : Dep (n + 1) (.str s)
  | tup (n : Nat) (ts : List T) : ts.length ≤ 100000 → (∀ t ∈ ts, Dep n t) → Dep (n + 1) (.tup ts)
def T.ty : T → String
  | .non => "NoneType" | .bl _ => "bool" | .int _ => "int" | .str _ => "str" | .tup _ => "tuple"
theorem IsT.ty {K : PySem.W.Frag} {H : Hp} {t : T} {v : V} (h : IsT H t v) : TyX K H v (.type t.ty) := by
  cases h with
  | non => exact .base .non
  | bl b => exact .base (.bl b)
  | int i => exact .base (.int i)
  | str s => exact .base (.str s)
  | tup e _ _ => exact .base (.tup e)
def spSame (n : Nat) : Sp := fun vs H Q _ => ∃ (t : T) (v u : V), vs = [v, u] ∧ IsT H t v ∧ IsT H t u ∧ Dep n t ∧ Q (.bl true) H
theorem Dep.mono {n m : Nat} {t : T} (h : Dep n t) (l : n ≤ m) : Dep m t := by
  induction h generalizing m with
  | non n => cases m with | zero => omega | succ m => exact .non m
  | int n i => cases m with | zero => omega | succ m => exact .int m i
  | str n s => cases m with | zero => omega | succ m => exact .str m s
  | tup n ts z _ ih => cases m with | zero => omega | succ m => exact .tup m ts z fun t ht => ih t ht (by omega)
theorem kb_NoneType_tuple : kitB "NoneType" "tuple" = some false := by decide +kernel
theorem kb_int_tuple : kitB "int" "tuple" = some false := by decide +kernel
theorem kb_int_bool : kitB "int" "bool" = some false := by decide +kernel
theorem kb_int_int : kitB "int" "int" = some true := by decide +kernel
theorem kb_str_tuple : kitB "str" "tuple" = some false := by decide +kernel
theorem kb_str_bool : kitB "str" "bool" = some false := by decide +kernel
theorem kb_str_int : kitB "str" "int" = some false := by decide +kernel
theorem kb_str_str : kitB "str" "str" = some true := by decide +kernel
theorem kb_tuple_tuple : kitB "tuple" "tuple" = some true := by decide +kernel
end Pw
namespace Pw
open PySem PySem.Spec PyProof.Rows L2
def spWide (n : Nat) : Sp := fun vs H Q _ => ∃ (b dg : Addr) (d : Nat), vs = [.ref b, .int (d : Int)] ∧ d < n ∧ Box H b dg [] ∧
  ∀ (e : E) (v : V) (H' : Hp), e.depth ≤ d → e.size ≤ 3 ^ d → IsT H' e.toT v → Box H' b dg [] → Oth [b] H H' → Q v H'
/-- _law_value: the scope is a list -/
def spLawValue (n : Nat) : Sp := fun vs H Q _ => ∃ (e : E) (c : Sc) (ve : V) (s ac ap as l : Addr) (L : List V), vs = [ve, .ref s, .ref l] ∧ IsT H e.toT ve ∧ H s = some (.lst [.ref ac, .ref ap, .ref as, .int c.index]) ∧
  H ac = some (.tup (c.cells.map V.int)) ∧ H ap = some (.tup (c.props.map V.int)) ∧ H as = some (.tup (c.store.map V.int)) ∧ s ≠ l ∧ H l = some (.lst L) ∧ e.depth < n ∧ L.length + e.size ≤ 100000 ∧
  ∀ H', H' l = some (.lst (L ++ (e.looks c).map V.int)) → Oth [l] H H' → Q (.int (e.val c)) H'
theorem at0 {x : V} {xs : List V} : atI (x :: xs) 0 = some x := atI_nat (j := 0) rfl
theorem at1 {x y : V} {xs : List V} : atI (x :: y :: xs) 1 = some y := atI_nat (j := 1) rfl
theorem at2 {x y z : V} {xs : List V} : atI (x :: y :: z :: xs) 2 = some z := atI_nat (j := 2) rfl
theorem at3 {x y z a : V} {xs : List V} : atI (x :: y :: z :: a :: xs) 3 = some a := atI_nat (j := 3) rfl
theorem at4 {x y z a b : V} {xs : List V} : atI (x :: y :: z :: a :: b :: xs) 4 = some b := atI_nat (j := 4) rfl
theorem at5 {x y z a b c : V} {xs : List V} : atI (x :: y :: z :: a :: b :: c :: xs) 5 = some c := atI_nat (j := 5) rfl
theorem sz {n : Nat} (h : n ≤ 1000 := by exact Nat.le_of_ble_eq_true rfl) : n ≤ sizeLine := Nat.le_of_lt (small1000 h)
theorem iteTd {p A B : Prop} [Decidable p] (hp : p) (h : A) : if decide p = true then A else B := by rw [decide_eq_true hp]; exact iteT h
theorem iteFd {p A B : Prop} [Decidable p] (hp : ¬ p) (h : B) : if decide p = true then A else B := by rw [decide_eq_false hp]; exact iteF h
theorem iteTb {b : Bool} {A B : Prop} (hb : b = true) (h : A) : if b = true then A else B := by rw [hb]; exact iteT h
theorem iteFb {b : Bool} {A B : Prop} (hb : b = false) (h : B) : if b = true then A else B := by rw [hb]; exact iteF h
theorem lt1 {x y w : V} {r : List V} (h : eqV x w = false) : ∀ (m : Nat) (z' : V), m < 1 → (x :: y :: r)[m]? = some z' → eqV z' w = false := fun m z' hm e => by
  obtain rfl : m = 0 := by omega
  cases e
  exact h
theorem lt2 {x y z w : V} {r : List V} (h : eqV x w = false) (h2 : eqV y w = false) : ∀ (m : Nat) (z' : V), m < 2 → (x :: y :: z :: r)[m]? = some z' → eqV z' w = false := fun m z' hm e => by
  rcases (by omega : m = 0 ∨ m = 1) with rfl | rfl
  · cases e; exact h
  · cases e; exact h2
end Pw
namespace Pw
open PySem PySem.Spec PyProof.Rows L2
theorem dp_ints {K : PySem.W.Frag} {H : Hp} : ∀ ns : List Int, DpAll K H (ns.map V.int) (ns.map PyData.int)
  | [] => .nil
  | n :: ns => .cons (.int n) (dp_ints ns)
theorem canLay_ints : ∀ ns : List Int, PyData.canLayAll0 (ns.map PyData.int) = true
  | [] => rfl
  | n :: ns => by
    show (true && PyData.canLayAll0 (ns.map PyData.int)) = true
    rw [canLay_ints ns]
    rfl
theorem depth_ints : ∀ ns : List Int, PyData.depthAll (ns.map PyData.int) = 0
  | [] => rfl
  | n :: ns => by
    show max 0 (PyData.depthAll (ns.map PyData.int)) = 0
    rw [depth_ints ns]
    rfl
theorem shaped_ints (ns : List Int) : SeqAt.shaped (.list (ns.map PyData.int)) = true := by
  unfold SeqAt.shaped
  have h1 : (PyData.list (ns.map PyData.int)).canLay0 = true := canLay_ints ns
  have h2 : (PyData.list (ns.map PyData.int)).depth = 1 := by
    show PyData.depthAll (ns.map PyData.int) + 1 = 1
    rw [depth_ints]
  rw [h1, h2]
  decide
theorem eqv_ints (ns : List Int) : PyData.eqv (.list (ns.map PyData.int)) (.list (ns.map PyData.int)) = true := PySem.SeqAt.eqv_refl _ (canLay_ints ns)
/-- rows of ints, each a tuple of its own -/
def RowT (H : Hp) (v : V) (cs : List Int) : Prop := ∃ q, v = .ref q ∧ H q = some (.tup (cs.map V.int))
theorem rows_oth {S : List Addr} {H H' : Hp} (o : Oth S H H') : ∀ {vs : List V} {cs : List (List Int)}, Paired (RowT H) vs cs → Paired (RowT H') vs cs
  | _, _, .nil => .nil
  | _, _, .cons ⟨q, e, h⟩ r => .cons ⟨q, e, o.tup _ _ h⟩ (rows_oth o r)
theorem rows_len {H : Hp} : ∀ {vs : List V} {cs : List (List Int)}, Paired (RowT H) vs cs → vs.length = cs.length
  | _, _, .nil => rfl
  | _, _, .cons _ r => congrArg (· + 1) (rows_len r)
theorem rows3 {H : Hp} {vs : List V} {cs : List (List Int)} (p : Paired (RowT H) vs cs) (h : vs.length = 3) : ∃ q0 q1 q2 c0 c1 c2, vs = [.ref q0, .ref q1, .ref q2] ∧ H q0 = some (.tup (List.map V.int c0)) ∧ H q1 = some (.tup (List.map V.int c1)) ∧ H q2 = some (.tup (List.map V.int c2)) := by
  cases p with
  | nil => cases h
  | cons r p =>
    cases p with
    | nil => cases h
    | cons r1 p =>
      cases p with
      | nil => cases h
      | cons r2 p =>
        cases p with
        | nil =>
          obtain ⟨q0, rfl, h0⟩ := r
          obtain ⟨q1, rfl, h1⟩ := r1
          obtain ⟨q2, rfl, h2⟩ := r2
          exact ⟨q0, q1, q2, _, _, _, rfl, h0, h1, h2⟩
        | cons r3 p => simp at h
def spLaw (K : PySem.W.Frag) : Sp := fun vs H Q _ => ∃ (a : Addr) (ns : List Int), vs = [.ref a] ∧ SqL K H a (ns.map V.int) ∧ ns.length ≤ 63 ∧ ∀ H', Q (.bl true) H'
end Pw
namespace Pw
open PySem PySem.Spec PyProof.Rows L2
def topS (i : Nat) : Stmt := PySem.Challenge.pw_pagewake_k05_values_of_expressions.main.body.getD i (.Pass ⟨0, 0, 0, 0⟩)
abbrev sValue : Stmt := topS 2
abbrev sThere : Stmt := topS 3
abbrev sItem : Stmt := topS 4
theorem scThere : FnScope ["row", "at"] ["row", "at"] (defScope sThere) := ⟨rfl, rfl, rfl, by decide +kernel, rfl, by decide +kernel, by decide +kernel⟩
theorem scItem : FnScope ["row", "at"] ["row", "at"] (defScope sItem) := ⟨rfl, rfl, rfl, by decide +kernel, rfl, by decide +kernel, by decide +kernel⟩
theorem scValue : FnScope ["expression", "scope", "looked", "_", "cells", "props", "store", "index", "number", "at", "left", "right", "condition", "chosen", "other"] ["expression", "scope", "looked"] (defScope sValue) := ⟨rfl, rfl, rfl, by decide +kernel, rfl, by decide +kernel, by decide +kernel⟩
section
variable {P : Program} {w : World} {K : PySem.W.Frag} {mg : Str → Option Value} {base : Heap}
theorem ok_there {f : Addr} {fd : FuncData} {k : Nat} (F : Fun K "_is_there" "_is_there" sThere f fd) (ml : mg "len" = none) : FnOk P w K mg base CX0 (k + 1) f fd ["row", "at"] (spThere K) := by
  refine F.ok scThere (fun vs H Q E h => ?_) (fun cdv A outer s H vs Q E hr h => ?_)
  · obtain ⟨a, xs, i, rfl, _⟩ := h
    rfl
  obtain ⟨a, xs, i, rfl, hS, q⟩ := h
  refine ⟨_, pss_one (ps_ret (pe_chain op_le op_lt pe_int (pv 1) (pe_callB call_len_seq rfl ml PySem.boot_len (pa_cons (pv 0) pa_nil)))), ?_⟩
  refine ⟨_, rfl, _, _, rfl, rfl, _, rfl, ?_⟩
  rw [decide_eq_true (by omega : (0 : Int) ≤ (i : Int))]
  refine iteT ⟨_, rfl, a, _, rfl, .inr hS, _, _, rfl, rfl, ?_⟩
  have e : decide ((i : Int) < (((xs.map V.int).length : Nat) : Int)) = decide (i < xs.length) := by
    rw [List.length_map]
    exact decide_eq_decide.mpr (by omega)
  rw [← e] at q
  exact q
theorem ok_item {f g : Addr} {fd gd : FuncData} {k : Nat} (F : Fun K "_item" "_item" sItem f fd) (G : FnOk P w K mg base CX0 k g gd ["row", "at"] (spThere K)) (bG : Binds K gd ["row", "at"] []) (kG : PySem.W.keepIn K (.ref g) = true) (mG : mg "_is_there" = some (.ref g)) :
    FnOk P w K mg base CX0 (k + 1) f fd ["row", "at"] (spItem K) := by
  refine F.ok scItem (fun vs H Q E h => ?_) (fun cdv A outer s H vs Q E hr h => ?_)
  · obtain ⟨a, xs, i, rfl, _⟩ := h
    rfl
  obtain ⟨a, xs, i, rfl, hS, q⟩ := h
  refine ⟨_, pss_one (ps_ret (pe_ifExp (pt_val (pe_call G hr rfl mG kG bG .nil pass0 (pa_cons (pv 0) (pa_cons (pv 1) pa_nil)))) (pe_ix ix_tup (pv 0) (pv 1) (fun _ _ => rfl)) pe_int)), ?_⟩
  refine ⟨_, rfl, _, rfl, a, xs, i, rfl, hS, _, rfl, ?_⟩
  refine ite2 (fun c => ?_) (fun c => ?_)
  · have c' : i < xs.length := of_decide_eq_true c
    exact ⟨_, rfl, _, rfl, a, _, _, _, rfl, rfl, hS, atI_nat (getD_of c'), q⟩
  · have c' : ¬ i < xs.length := of_decide_eq_false (Bool.eq_false_iff.mpr c)
    rw [getD_out c'] at q
    exact q
theorem ok_value {f g t : Addr} {fd gd td : FuncData} {k n : Nat} {tv : Tok} (F : Fun K "value" "value" sValue f fd)
    (S : FnOk P w K mg base CX0 k f fd ["expression", "scope", "looked"] (spValue n)) (bS : Binds K fd ["expression", "scope", "looked"] []) (kS : PySem.W.keepIn K (.ref f) = true) (mS : mg "value" = some (.ref f))
    (G : FnOk P w K mg base CX0 k g gd ["row", "at"] (spItem K)) (bG : Binds K gd ["row", "at"] []) (kG : PySem.W.keepIn K (.ref g) = true) (mG : mg "_item" = some (.ref g))
    (T : FnOk P w K mg base CX0 k t td ["row", "at"] (spThere K)) (bT : Binds K td ["row", "at"] []) (kT : PySem.W.keepIn K (.ref t) = true) (mT : mg "_is_there" = some (.ref t)) (mV : mg "VALUES" = some (.int 1000 tv)) :
    FnOk P w K mg base CX0 (k + 1) f fd ["expression", "scope", "looked"] (spValue (n + 1)) := by
  refine F.ok scValue (fun vs H Q E' h => ?_) (fun cdv A outer s H vs Q E' hr h => ?_)
  · obtain ⟨e, c, ve, vc, l, L, rfl, _⟩ := h
    rfl
  obtain ⟨e, c, ve, vc, l, L, rfl, he, hc, hL, hd, hz, q⟩ := h
  have nd := scValue.nd
  refine ⟨_, pss_cons (ps_asg (pv 1) (pg_tup rfl (pgs_cons (pg_name (i := 3) nd rfl (.inl rfl)) (pgs_cons (pg_name (i := 4) nd rfl (.inl rfl)) (pgs_cons (pg_name (i := 5) nd rfl (.inl rfl))
      (pgs_cons (pg_name (i := 6) nd rfl (.inl rfl)) (pgs_cons (pg_name (i := 7) nd rfl (.inl rfl)) pgs_nil)))))))
    (pss_one (ps_match (pv 0)
      (pcs_cons nd (pp_seq rfl (pps_cons' pp_str (pps_cons' (pp_name 8) pps_nil'))) (pss_one (ps_ret (pv 8)))
      (pcs_cons nd (pp_seq rfl (pps_cons' pp_str (pps_cons' (pp_name 9) pps_nil'))) (pss_one (ps_ret (pe_call G hr rfl mG kG bG .nil pass0 (pa_cons (pv 4) (pa_cons (pv 9) pa_nil)))))
      (pcs_cons nd (pp_seq rfl (pps_cons' pp_str (pps_cons' (pp_name 9) pps_nil'))) (pss_one (ps_ret (pe_call G hr rfl mG kG bG .nil pass0 (pa_cons (pv 5) (pa_cons (pv 9) pa_nil)))))
      (pcs_cons nd (pp_seq rfl (pps_cons' pp_str (pps_cons' (pp_name 9) pps_nil'))) (pss_cons (ps_if (pt_val (pe_call T hr rfl mT kT bT .nil pass0 (pa_cons (pv 6) (pa_cons (pv 9) pa_nil))))
          (pss_one (ps_expr (pe_bm PySem.F.plainAttrs_list PySem.F.slot_list_append PySem.F.type_list_append mt_append (pv 2) (pa_cons (pv 9) pa_nil)))) pss_nil)
        (pss_one (ps_ret (pe_call G hr rfl mG kG bG .nil pass0 (pa_cons (pv 6) (pa_cons (pv 9) pa_nil))))))
      (pcs_cons nd (pp_seq rfl (pps_cons' pp_str pps_nil')) (pss_one (ps_ret (pv 7)))
      (pcs_cons nd (pp_seq rfl (pps_cons' pp_str (pps_cons' (pp_name 10) (pps_cons' (pp_name 11) pps_nil'))))
        (pss_one (ps_ret (pe_op op_mod (pe_op op_add (pe_call S hr rfl mS kS bS .nil pass0 (pa_cons (pv 10) (pa_cons (pv 1) (pa_cons (pv 2) pa_nil)))) (pe_call S hr rfl mS kS bS .nil pass0 (pa_cons (pv 11) (pa_cons (pv 1) (pa_cons (pv 2) pa_nil))))) (pe_glob (v := .int 1000) rfl mV ⟨tv, rfl⟩))))
      (pcs_cons nd (pp_seq rfl (pps_cons' pp_str (pps_cons' (pp_name 10) (pps_cons' (pp_name 11) pps_nil'))))
        (pss_one (ps_ret (pe_op op_mod (pe_op op_sub (pe_call S hr rfl mS kS bS .nil pass0 (pa_cons (pv 10) (pa_cons (pv 1) (pa_cons (pv 2) pa_nil)))) (pe_call S hr rfl mS kS bS .nil pass0 (pa_cons (pv 11) (pa_cons (pv 1) (pa_cons (pv 2) pa_nil))))) (pe_glob (v := .int 1000) rfl mV ⟨tv, rfl⟩))))
      (pcs_cons nd (pp_seq rfl (pps_cons' pp_str (pps_cons' (pp_name 10) (pps_cons' (pp_name 11) pps_nil'))))
        (pss_one (ps_ret (pe_ifExp (pt_cmpR op_eq (pe_call S hr rfl mS kS bS .nil pass0 (pa_cons (pv 10) (pa_cons (pv 1) (pa_cons (pv 2) pa_nil)))) (pe_call S hr rfl mS kS bS .nil pass0 (pa_cons (pv 11) (pa_cons (pv 1) (pa_cons (pv 2) pa_nil)))) (nomark _)) pe_int pe_int)))
      (pcs_cons nd (pp_seq rfl (pps_cons' pp_str (pps_cons' (pp_name 10) (pps_cons' (pp_name 11) pps_nil'))))
        (pss_one (ps_ret (pe_ifExp (pt_cmpR op_lt (pe_call S hr rfl mS kS bS .nil pass0 (pa_cons (pv 10) (pa_cons (pv 1) (pa_cons (pv 2) pa_nil)))) (pe_call S hr rfl mS kS bS .nil pass0 (pa_cons (pv 11) (pa_cons (pv 1) (pa_cons (pv 2) pa_nil)))) (nomark _)) pe_int pe_int)))
      (pcs_cons nd (pp_seq rfl (pps_cons' pp_str (pps_cons' (pp_name 12) (pps_cons' (pp_name 13) (pps_cons' (pp_name 14) pps_nil')))))
        (pss_cons (ps_if (pt_cmpR op_ne (pe_call S hr rfl mS kS bS .nil pass0 (pa_cons (pv 12) (pa_cons (pv 1) (pa_cons (pv 2) pa_nil)))) pe_int (nomark _))
            (pss_one (ps_ret (pe_call S hr rfl mS kS bS .nil pass0 (pa_cons (pv 13) (pa_cons (pv 1) (pa_cons (pv 2) pa_nil)))))) pss_nil)
          (pss_one (ps_ret (pe_call S hr rfl mS kS bS .nil pass0 (pa_cons (pv 14) (pa_cons (pv 1) (pa_cons (pv 2) pa_nil)))))))
      pcs_nil))))))))))))
    , ?_⟩
  -- the scope taken apart
  obtain ⟨sc, _, v1, v2, v3, _, rfl, hsc, r0, r1, r2, r3, r4⟩ := IsT.inv5 hc
  obtain rfl := r0.of_str
  obtain rfl := r4.of_int
  obtain ⟨ac, rfl, hac⟩ := r1.ints
  obtain ⟨ap, rfl, hap⟩ := r2.ints
  obtain ⟨as, rfl, has⟩ := r3.ints
  refine ⟨_, rfl, sc, _, rfl, SqT.of hsc, rfl, _, _, rfl, _, _, rfl, _, _, rfl, _, _, rfl, _, _, rfl, rfl, ?_⟩
  cases e with
  | num m =>
    obtain ⟨a, _, _, rfl, ha, p0, p1⟩ := IsT.inv2 he
    obtain rfl := p0.of_str
    obtain rfl := p1.of_int
    refine ⟨_, rfl, case_hit (SqT.of ha) rfl ⟨_, _, rfl, _, rfl, ?_⟩⟩
    exact q H (by simpa [E.looks] using hL) Oth.refl
  | cell m =>
    obtain ⟨a, _, _, rfl, ha, p0, p1⟩ := IsT.inv2 he
    obtain rfl := p0.of_str
    obtain rfl := p1.of_int
    refine ⟨_, rfl, case_skip (SqT.of ha) (by decide) (case_hit (SqT.of ha) rfl ⟨_, _, rfl, _, rfl, _, rfl, _, c.cells, m, rfl, SqT.of hac, ?_⟩)⟩
    exact q H (by simpa [E.looks] using hL) Oth.refl
  | prop m =>
    obtain ⟨a, _, _, rfl, ha, p0, p1⟩ := IsT.inv2 he
    obtain rfl := p0.of_str
    obtain rfl := p1.of_int
    refine ⟨_, rfl, case_skip (SqT.of ha) (by decide) (case_skip (SqT.of ha) (by decide) (case_hit (SqT.of ha) rfl ⟨_, _, rfl, _, rfl, _, rfl, _, c.props, m, rfl, SqT.of hap, ?_⟩))⟩
    exact q H (by simpa [E.looks] using hL) Oth.refl
  | store m =>
    obtain ⟨a, _, _, rfl, ha, p0, p1⟩ := IsT.inv2 he
    obtain rfl := p0.of_str
    obtain rfl := p1.of_int
    refine ⟨_, rfl, case_skip (SqT.of ha) (by decide) (case_skip (SqT.of ha) (by decide) (case_skip (SqT.of ha) (by decide) (case_hit (SqT.of ha) rfl ⟨_, _, rfl, _, rfl, _, rfl, _, c.store, m, rfl, SqT.of has, _, rfl, ?_⟩)))⟩
    refine ite2 (fun y => ?_) (fun y => ?_)
    · have y' : m < c.store.length := of_decide_eq_true y
      have hs : L.length < sizeLine := Nat.lt_of_le_of_lt (by omega : L.length ≤ 100000) (by decide)
      refine ⟨_, rfl, .inl ⟨rfl, _, SqL.of hL⟩, _, rfl, l, _, _, rfl, rfl, hL, hs, ?_⟩
      have o1 : Oth [l] H (upd H l (.lst (L ++ [.int (m : Int)]))) := Oth.put (by simp) hL
      refine ⟨_, rfl, _, rfl, _, c.store, m, rfl, o1.sqT has, ?_⟩
      exact q _ (by rw [upd_same, E.looks, if_pos y']; rfl) o1
    · have y' : ¬ m < c.store.length := of_decide_eq_false (Bool.eq_false_iff.mpr y)
      refine ⟨_, rfl, _, rfl, _, c.store, m, rfl, SqT.of has, ?_⟩
      exact q H (by rw [E.looks, if_neg y']; simpa using hL) Oth.refl
  | index =>
    obtain ⟨a, _, rfl, ha, p0⟩ := IsT.inv1 he
    obtain rfl := p0.of_str
    refine ⟨_, rfl, case_skip (SqT.of ha) (by decide) (case_skip (SqT.of ha) (by decide) (case_skip (SqT.of ha) (by decide) (case_skip (SqT.of ha) (by decide) (case_hit (SqT.of ha) rfl ⟨_, rfl, ?_⟩))))⟩
    exact q H (by simpa [E.looks] using hL) Oth.refl
  | plus e1 e2 =>
    obtain ⟨a, _, v1, v2, rfl, ha, p0, p1, p2⟩ := IsT.inv3 he
    obtain rfl := p0.of_str
    have z1 := E.size_pos e1
    have z2 := E.size_pos e2
    have z3 := E.looks_le c e1
    simp only [E.depth, E.size] at hd hz
    refine ⟨_, rfl, case_skip (SqT.of ha) (by decide) (case_skip (SqT.of ha) (by decide) (case_skip (SqT.of ha) (by decide) (case_skip (SqT.of ha) (by decide) (case_skip (SqT.of ha) (by decide) (case_hit (SqT.of ha) rfl ⟨_, _, rfl, _, _, rfl, _, rfl, _, rfl, _, rfl, e1, c, _, _, l, L, rfl, p1, hc, hL, by omega, by omega, fun H1 hL1 o1 => ?_⟩)))))⟩
    refine ⟨_, rfl, _, rfl, _, rfl, e2, c, _, _, l, _, rfl, p2.oth o1, hc.oth o1, hL1, by omega, by simp only [List.length_append, List.length_map]; omega, fun H2 hL2 o2 => ?_⟩
    have fin : H2 l = some (.lst (L ++ (e1.looks c ++ e2.looks c).map V.int)) := by rw [hL2, List.map_append, List.append_assoc]
    refine ⟨_, _, rfl, rfl, _, _, rfl, rfl, (by show (0 : Int) < 1000; decide), ?_⟩
    exact q H2 fin (o1.trans o2)
  | minus e1 e2 =>
    obtain ⟨a, _, v1, v2, rfl, ha, p0, p1, p2⟩ := IsT.inv3 he
    obtain rfl := p0.of_str
    have z1 := E.size_pos e1
    have z2 := E.size_pos e2
    have z3 := E.looks_le c e1
    simp only [E.depth, E.size] at hd hz
    refine ⟨_, rfl, case_skip (SqT.of ha) (by decide) (case_skip (SqT.of ha) (by decide) (case_skip (SqT.of ha) (by decide) (case_skip (SqT.of ha) (by decide) (case_skip (SqT.of ha) (by decide) (case_skip (SqT.of ha) (by decide) (case_hit (SqT.of ha) rfl ⟨_, _, rfl, _, _, rfl, _, rfl, _, rfl, _, rfl, e1, c, _, _, l, L, rfl, p1, hc, hL, by omega, by omega, fun H1 hL1 o1 => ?_⟩))))))⟩
    refine ⟨_, rfl, _, rfl, _, rfl, e2, c, _, _, l, _, rfl, p2.oth o1, hc.oth o1, hL1, by omega, by simp only [List.length_append, List.length_map]; omega, fun H2 hL2 o2 => ?_⟩
    have fin : H2 l = some (.lst (L ++ (e1.looks c ++ e2.looks c).map V.int)) := by rw [hL2, List.map_append, List.append_assoc]
    refine ⟨_, _, rfl, rfl, _, _, rfl, rfl, (by show (0 : Int) < 1000; decide), ?_⟩
    exact q H2 fin (o1.trans o2)
  | same e1 e2 =>
    obtain ⟨a, _, v1, v2, rfl, ha, p0, p1, p2⟩ := IsT.inv3 he
    obtain rfl := p0.of_str
    have z1 := E.size_pos e1
    have z2 := E.size_pos e2
    have z3 := E.looks_le c e1
    simp only [E.depth, E.size] at hd hz
    refine ⟨_, rfl, case_skip (SqT.of ha) (by decide) (case_skip (SqT.of ha) (by decide) (case_skip (SqT.of ha) (by decide) (case_skip (SqT.of ha) (by decide) (case_skip (SqT.of ha) (by decide) (case_skip (SqT.of ha) (by decide) (case_skip (SqT.of ha) (by decide) (case_hit (SqT.of ha) rfl ⟨_, _, rfl, _, _, rfl, _, rfl, _, rfl, _, rfl, e1, c, _, _, l, L, rfl, p1, hc, hL, by omega, by omega, fun H1 hL1 o1 => ?_⟩)))))))⟩
    refine ⟨_, rfl, _, rfl, _, rfl, e2, c, _, _, l, _, rfl, p2.oth o1, hc.oth o1, hL1, by omega, by simp only [List.length_append, List.length_map]; omega, fun H2 hL2 o2 => ?_⟩
    have fin : H2 l = some (.lst (L ++ (e1.looks c ++ e2.looks c).map V.int)) := by rw [hL2, List.map_append, List.append_assoc]
    refine ⟨rfl, _, rfl, ite2 (fun y => ?_) (fun y => ?_)⟩
    · have y' : e1.val c = e2.val c := V.int.inj (of_decide_eq_true y)
      have q2 := q H2 fin (o1.trans o2)
      rw [E.val, if_pos y'] at q2
      exact q2
    · have y' : ¬ e1.val c = e2.val c := fun z => y (decide_eq_true (by rw [z]))
      have q2 := q H2 fin (o1.trans o2)
      rw [E.val, if_neg y'] at q2
      exact q2
  | less e1 e2 =>
    obtain ⟨a, _, v1, v2, rfl, ha, p0, p1, p2⟩ := IsT.inv3 he
    obtain rfl := p0.of_str
    have z1 := E.size_pos e1
    have z2 := E.size_pos e2
    have z3 := E.looks_le c e1
    simp only [E.depth, E.size] at hd hz
    refine ⟨_, rfl, case_skip (SqT.of ha) (by decide) (case_skip (SqT.of ha) (by decide) (case_skip (SqT.of ha) (by decide) (case_skip (SqT.of ha) (by decide) (case_skip (SqT.of ha) (by decide) (case_skip (SqT.of ha) (by decide) (case_skip (SqT.of ha) (by decide) (case_skip (SqT.of ha) (by decide) (case_hit (SqT.of ha) rfl ⟨_, _, rfl, _, _, rfl, _, rfl, _, rfl, _, rfl, e1, c, _, _, l, L, rfl, p1, hc, hL, by omega, by omega, fun H1 hL1 o1 => ?_⟩))))))))⟩
    refine ⟨_, rfl, _, rfl, _, rfl, e2, c, _, _, l, _, rfl, p2.oth o1, hc.oth o1, hL1, by omega, by simp only [List.length_append, List.length_map]; omega, fun H2 hL2 o2 => ?_⟩
    have fin : H2 l = some (.lst (L ++ (e1.looks c ++ e2.looks c).map V.int)) := by rw [hL2, List.map_append, List.append_assoc]
    refine ⟨_, _, rfl, rfl, _, rfl, ite2 (fun y => ?_) (fun y => ?_)⟩
    · have y' : e1.val c < e2.val c := of_decide_eq_true y
      have q2 := q H2 fin (o1.trans o2)
      rw [E.val, if_pos y'] at q2
      exact q2
    · have y' : ¬ e1.val c < e2.val c := fun z => y (decide_eq_true z)
      have q2 := q H2 fin (o1.trans o2)
      rw [E.val, if_neg y'] at q2
      exact q2
  | ite e0 e1 e2 =>
    obtain ⟨a, _, v0, v1, v2, rfl, ha, p0, p3, p1, p2⟩ := IsT.inv4 he
    obtain rfl := p0.of_str
    have z0 := E.size_pos e0
    have z1 := E.size_pos e1
    have z2 := E.size_pos e2
    have z3 := E.looks_le c e0
    simp only [E.depth, E.size] at hd hz
    refine ⟨_, rfl, case_skip (SqT.of ha) (by decide) (case_skip (SqT.of ha) (by decide) (case_skip (SqT.of ha) (by decide) (case_skip (SqT.of ha) (by decide) (case_skip (SqT.of ha) (by decide) (case_skip (SqT.of ha) (by decide) (case_skip (SqT.of ha) (by decide) (case_skip (SqT.of ha) (by decide) (case_skip (SqT.of ha) (by decide) (case_hit (SqT.of ha) rfl ⟨_, _, rfl, _, _, rfl, _, _, rfl, _, rfl, _, rfl, _, rfl, e0, c, _, _, l, L, rfl, p3, hc, hL, by omega, by omega, fun H1 hL1 o1 => ?_⟩)))))))))⟩
    refine ⟨rfl, _, rfl, ite2 (fun y => ?_) (fun y => ?_)⟩
    · have y' : ¬ e0.val c = 0 := fun z => by rw [z] at y; exact absurd y (by decide)
      refine ⟨_, rfl, _, rfl, _, rfl, e1, c, _, _, l, _, rfl, p1.oth o1, hc.oth o1, hL1, by omega, by simp only [List.length_append, List.length_map]; omega, fun H2 hL2 o2 => ?_⟩
      have q2 := q H2 (by rw [hL2, E.looks, if_neg y', List.map_append, List.append_assoc]) (o1.trans o2)
      rw [E.val, if_neg y'] at q2
      exact q2
    · have y' : e0.val c = 0 := Decidable.byContradiction fun z => y (by rw [decide_eq_false (fun w => z (V.int.inj w))]; rfl)
      refine ⟨_, rfl, _, rfl, _, rfl, e2, c, _, _, l, _, rfl, p2.oth o1, hc.oth o1, hL1, by omega, by simp only [List.length_append, List.length_map]; omega, fun H2 hL2 o2 => ?_⟩
      have q2 := q H2 (by rw [hL2, E.looks, if_pos y', List.map_append, List.append_assoc]) (o1.trans o2)
      rw [E.val, if_pos y'] at q2
      exact q2
end
end Pw
namespace Pw
open PySem PySem.Spec PyProof.Rows L2
abbrev sCell : Stmt := topS 6
abbrev sDigits : Stmt := topS 7
abbrev sDraw : Stmt := topS 8
theorem scCell : FnScope ["script", "k"] ["script", "k"] (defScope sCell) := ⟨rfl, rfl, rfl, by decide +kernel, rfl, by decide +kernel, by decide +kernel⟩
theorem scDigits : FnScope ["script", "first", "last", "digits", "k", "cell", "turn", "seed"] ["script", "first", "last"] (defScope sDigits) := ⟨rfl, rfl, rfl, by decide +kernel, rfl, by decide +kernel, by decide +kernel⟩
theorem scDraw : FnScope ["box", "many", "at"] ["box", "many"] (defScope sDraw) := ⟨rfl, rfl, rfl, by decide +kernel, rfl, by decide +kernel, by decide +kernel⟩
section
variable {P : Program} {w : World} {K : PySem.W.Frag} {mg : Str → Option Value} {base : Heap}
theorem ok_cell {f : Addr} {fd : FuncData} {k : Nat} (F : Fun K "_law_cell" "_law_cell" sCell f fd) (ml : mg "len" = none) : FnOk P w K mg base CX0 (k + 1) f fd ["script", "k"] (spCell' K) := by
  refine F.ok scCell (fun vs H Q E h => ?_) (fun cdv A outer s H vs Q E hr h => ?_)
  · obtain ⟨a, xs, i, rfl, _⟩ := h
    rfl
  obtain ⟨a, ns, i, rfl, hS, q⟩ := h
  refine ⟨_, pss_cons (ps_if (pt_cmpR op_lt (pv 1) (pe_callB call_len_seq (by rfl) ml PySem.boot_len (pa_cons (pv 0) pa_nil)) (nomark _)) (pss_one (ps_ret (pe_ix ix_list (pv 0) (pv 1) (fun _ _ => rfl)))) pss_nil)
    (pss_one (ps_ret pe_int)), ?_⟩
  refine ⟨_, rfl, _, rfl, a, _, rfl, .inl hS, _, _, rfl, rfl, _, rfl, ite2 (fun c => ?_) (fun c => ?_)⟩
  · have c' : (i : Int) < (((ns.map V.int).length : Nat) : Int) := of_decide_eq_true c
    have c2 : i < (ns.map V.int).length := by omega
    rw [List.length_map] at c2
    have g : (ns.map V.int)[i]? = some (.int ns[i]) := by rw [List.getElem?_map, List.getElem?_eq_getElem c2]; rfl
    exact ⟨_, rfl, _, rfl, a, _, _, _, rfl, rfl, hS, atI_nat g, q _⟩
  · exact q 0
theorem ok_draw {f : Addr} {fd : FuncData} {k : Nat} (F : Fun K "_law_draw" "_law_draw" sDraw f fd) (ml : mg "len" = none) (mi : mg "int" = none) : FnOk P w K mg base CX0 (k + 1) f fd ["box", "many"] spDraw := by
  refine F.ok scDraw (fun vs H Q E h => ?_) (fun cdv A outer s H vs Q E hr h => ?_)
  · obtain ⟨b, d, m, rest, rfl, _⟩ := h
    rfl
  obtain ⟨b, d, m, rest, rfl, hm, ⟨ds, at', hb, hd⟩, q⟩ := h
  have nd := scDraw.nd
  have i0 : ∀ (xs : List V) (x : V), atI (x :: xs) 0 = some x := fun xs x => atI_nat (j := 0) rfl
  have i1 : ∀ (xs : List V) (x y : V), atI (x :: y :: xs) 1 = some y := fun xs x y => atI_nat (j := 1) rfl
  refine ⟨_, pss_cons (ps_set (i := 2) nd rfl (.inl rfl) (pe_ix ix_list (pv 0) pe_int (fun _ _ => rfl)))
    (pss_cons (ps_asg (pe_op op_add (pv 2) pe_int) (pg_sub (pv 0) pe_int set_list))
    (pss_cons (ps_if (pt_cmpR op_lt (pv 2) (pe_callB call_len_seq (by rfl) ml PySem.boot_len (pa_cons (pe_ix ix_list (pv 0) pe_int (fun _ _ => rfl)) pa_nil)) (nomark _))
        (pss_one (ps_ret (pe_op op_mod (pe_callTy call_int1 (by rfl) mi bo_int (pa_cons (pe_ix ix_list (pe_ix ix_list (pv 0) pe_int (fun _ _ => rfl)) (pv 2) (fun _ _ => rfl)) pa_nil)) (pv 1)))) pss_nil)
      (pss_one (ps_ret pe_int)))), ?_⟩
  refine ⟨_, rfl, b, _, _, _, rfl, rfl, SqL.of hb, i1 _ _ _, ?_⟩
  refine ⟨_, rfl, _, _, rfl, rfl, _, rfl, b, _, 1, 1, rfl, rfl, hb, ?_, ?_⟩
  · show (if (0 : Int) ≤ 1 then (if (1 : Int) < ((rest.length + 1 + 1 : Nat) : Int) then some (1 : Int).toNat else none) else _) = some 1
    rw [if_pos (by decide), if_pos (by omega)]
    rfl
  have dne : d ≠ b := by
    intro e
    rw [e, hb] at hd
    cases ds with
    | nil => cases hd
    | cons x r => cases hd
  have hb' : upd H b (.lst (.ref d :: .int ((at' : Int) + 1) :: rest)) b = some (.lst (.ref d :: .int ((at' : Int) + 1) :: rest)) := upd_same
  have hd' : upd H b (.lst (.ref d :: .int ((at' : Int) + 1) :: rest)) d = some (.lst (ds.map V.int)) := by rw [upd_ne dne]; exact hd
  have o1 : Oth [b] H (upd H b (.lst (.ref d :: .int ((at' : Int) + 1) :: rest))) := Oth.put (by simp) hb
  have bx : Box (upd H b (.lst (.ref d :: .int ((at' : Int) + 1) :: rest))) b d rest := ⟨ds, at' + 1, by rw [hb']; rfl, hd'⟩
  refine ⟨_, rfl, _, rfl, b, _, _, _, rfl, rfl, SqL.of hb', i0 _ _, d, _, rfl, .inl (SqL.of hd'), _, _, rfl, rfl, _, rfl, ite2 (fun c => ?_) (fun c => ?_)⟩
  · have c' : (at' : Int) < (((ds.map V.int).length : Nat) : Int) := of_decide_eq_true c
    have c2 : at' < (ds.map V.int).length := by omega
    rw [List.length_map] at c2
    have g : (ds.map V.int)[at']? = some (.int ds[at']) := by rw [List.getElem?_map, List.getElem?_eq_getElem c2]; rfl
    refine ⟨_, rfl, b, _, _, _, rfl, rfl, SqL.of hb', i0 _ _, _, rfl, d, _, _, _, rfl, rfl, SqL.of hd', atI_nat g, .inl ⟨_, rfl, _, rfl, _, _, rfl, rfl, hm, ?_⟩⟩
    exact q _ _ (Int.emod_nonneg _ (by omega)) (Int.emod_lt_of_pos _ hm) bx o1
  · exact q 0 _ (by omega) hm bx o1
theorem ok_digits {f g : Addr} {fd gd : FuncData} {k : Nat} (F : Fun K "_law_digits" "_law_digits" sDigits f fd) (GC : FnOk P w K mg base CX0 k g gd ["script", "k"] (spCell' K)) (bC : Binds K gd ["script", "k"] []) (kC : PySem.W.keepIn K (.ref g) = true) (mC : mg "_law_cell" = some (.ref g))
    (m_range : mg "range" = none) (m_int : mg "int" = none) : FnOk P w K mg base CX0 (k + 1) f fd ["script", "first", "last"] (spDigits K) := by
  refine F.ok scDigits (fun vs H Q E h => ?_) (fun cdv A outer s H vs Q E hr h => ?_)
  · obtain ⟨a, ns, i, j, rfl, _⟩ := h
    rfl
  obtain ⟨a, ns, i0, j0, rfl, hS, hi0, hj0, q⟩ := h
  have nd := scDigits.nd
  refine ⟨_, (pss_cons (ps_set (i := 3) nd rfl (.inl rfl) (pe_lst pa_nil))
  (pss_cons (ps_for PassesOwn.never rfl (pi_range2 (by rfl) m_range (pa_cons (pv 1) (pa_cons (pv 2) pa_nil))) (pg_name (i := 4) nd rfl (.inl rfl))
  (pss_cons (ps_set (i := 5) nd rfl (.inl rfl) (pe_call GC hr rfl mC kC bC .nil pass0 (pa_cons (pv 0) (pa_cons (pv 4) pa_nil))))
  (pss_cut (ps_if (pt_cmpR op_lt (pv 5) pe_int (nomark _))
  (pss_one (ps_set (i := 5) nd rfl (.inl rfl) (pe_op op_sub pe_int (pe_op op_mul pe_int (pv 5)))))
  pss_nil)
  (pss_one (ps_if (pt_cmpR op_ge (pv 5) (pe_op op_pow pe_int pe_int) (nomark _))
  (pss_one (ps_for PassesOwn.never rfl (pi_range1 (by rfl) m_range (pa_cons pe_int pa_nil)) (pg_name (i := 6) nd rfl (.inl rfl))
  (pss_one (ps_if (pt_cmpR op_gt (pv 5) pe_int (nomark _))
  (pss_cons (ps_expr (pe_bm PySem.F.plainAttrs_list PySem.F.slot_list_append PySem.F.type_list_append mt_append (pv 3) (pa_cons (pe_op op_mod (pe_callTy call_int1 (by rfl) m_int bo_int (pa_cons (pv 5) pa_nil)) pe_int) pa_nil)))
  (pss_one (ps_set (i := 5) nd rfl (.inl rfl) (pe_op op_fdiv (pv 5) pe_int))))
  pss_nil))))
  (pss_cons (ps_set (i := 7) nd rfl (.inl rfl) (pe_op op_mod (pe_callTy call_int1 (by rfl) m_int bo_int (pa_cons (pe_op op_add (pe_op op_add (pe_op op_mul (pv 5) pe_int) (pe_op op_mul (pv 4) pe_int)) pe_int) pa_nil)) pe_int))
  (pss_one (ps_for PassesOwn.never rfl (pi_range1 (by rfl) m_range (pa_cons pe_int pa_nil)) (pg_name (i := 6) nd rfl (.inl rfl))
  (pss_cons (ps_set (i := 7) nd rfl (.inl rfl) (pe_op op_mod (pe_callTy call_int1 (by rfl) m_int bo_int (pa_cons (pe_op op_add (pe_op op_add (pe_op op_mul (pv 7) pe_int) (pe_op op_mul pe_int (pv 6))) pe_int) pa_nil)) pe_int))
  (pss_one (ps_expr (pe_bm PySem.F.plainAttrs_list PySem.F.slot_list_append PySem.F.type_list_append mt_append (pv 3) (pa_cons (pe_op op_mod (pe_callTy call_int1 (by rfl) m_int bo_int (pa_cons (pe_op op_fdiv (pv 7) pe_int) pa_nil)) pe_int) pa_nil)))))))))))))
  (pss_one (ps_ret (pv 3))))), ?_⟩
  refine ⟨Nat.zero_le _, fun p hp => ?_⟩
  refine ⟨_, rfl, _, rfl, (i0 : Int), (j0 : Int), rfl, ⟨by omega, by omega, by omega, by omega⟩, for_range (lo := (i0 : Int)) (n := ((j0 : Int) - (i0 : Int)).toNat)
    (fun i σ H1 => ∃ (x4 x5 x6 x7 : Option V) (ds : List Int), σ = [some (.ref a), some (.int (i0 : Int)), some (.int (j0 : Int)), some (.ref p), x4, x5, x6, x7] ∧ Oth [] H H1 ∧ H1 p = some (.lst (ds.map V.int)) ∧ ds.length ≤ 60 * i)
    ⟨none, none, none, none, [], rfl, Oth.new hp, upd_same, Nat.zero_le _⟩ (fun i σ H1 hi hW => ?_) (fun σ H1 hW => ?_)⟩
  · obtain ⟨x4, x5, x6, x7, ds, rfl, o1, hp1, hds⟩ := hW
    have hi2 : i < 100 := by omega
    refine ⟨_, rfl, _, rfl, a, ns, i0 + i, rfl, o1.sqL (by simp) hS, fun x => ?_⟩
    refine ⟨fun σ2 H2 => H2 = H1 ∧ ∃ c : Int, 0 ≤ c ∧ σ2 = [some (.ref a), some (.int (i0 : Int)), some (.int (j0 : Int)), some (.ref p), some (.int ((i0 : Int) + (i : Int))), some (.int c), x6, x7], ?_, ?_⟩
    · refine ⟨_, rfl, _, _, rfl, rfl, _, rfl, ite2 (fun c => ?_) (fun c => ?_)⟩
      · have c' : x < 0 := of_decide_eq_true c
        exact ⟨_, rfl, _, _, rfl, rfl, .inl ⟨by decide, by decide⟩, _, _, rfl, rfl, rfl, _, by omega, rfl⟩
      · have c' : ¬ x < 0 := of_decide_eq_false (Bool.eq_false_iff.mpr c)
        exact ⟨rfl, x, by omega, rfl⟩
    · rintro σ2 H2 ⟨rfl, c, hc, rfl⟩
      refine ⟨_, rfl, _, _, rfl, rfl, ⟨by decide, by decide, by decide⟩, _, _, rfl, rfl, _, rfl, ite2 (fun y => ?_) (fun y => ?_)⟩
      · refine ⟨60, rfl, by decide, by decide, for_range (lo := 0) (n := 60)
          (fun j σ H3 => ∃ (x6 : Option V) (c : Int) (ds : List Int), σ = [some (.ref a), some (.int (i0 : Int)), some (.int (j0 : Int)), some (.ref p), some (.int ((i0 : Int) + (i : Int))), some (.int c), x6, x7] ∧ Oth [] H H3 ∧ H3 p = some (.lst (ds.map V.int)) ∧ ds.length ≤ 60 * i + j)
          ⟨x6, c, ds, rfl, o1, hp1, by omega⟩ (fun j σ H3 hj hW => ?_) (fun σ H3 hW => ?_)⟩
        · obtain ⟨x6, c, ds, rfl, o3, hp3, hd3⟩ := hW
          refine ⟨_, rfl, _, _, rfl, rfl, _, rfl, ite2 (fun y => ?_) (fun y => ?_)⟩
          · have hs : (ds.map V.int).length < sizeLine := by rw [List.length_map]; exact Nat.lt_of_le_of_lt (by omega : ds.length ≤ 100000) (by decide)
            refine ⟨_, rfl, .inl ⟨rfl, _, SqL.of hp3⟩, _, rfl, .inl ⟨_, rfl, _, _, rfl, rfl, (by show (0 : Int) < 1000; decide), p, _, _, rfl, rfl, hp3, hs, ?_⟩⟩
            refine ⟨_, rfl, _, _, rfl, rfl, ⟨by decide, by decide⟩, _, _, ds ++ [c % 1000], rfl, (((o3.mono (S' := [p]) (by simp)).trans (Oth.put (by simp) hp3)).drop hp), ?_, ?_⟩
            · rw [upd_same, List.map_append]; rfl
            · rw [List.length_append]; simp; omega
          · exact ⟨_, c, ds, rfl, o3, hp3, by omega⟩
        · obtain ⟨x6, c, ds, rfl, o3, hp3, hd3⟩ := hW
          exact ⟨_, _, _, _, ds, rfl, o3, hp3, by omega⟩
      · have y' : c < 10 ^ 18 := Int.not_le.mp fun z => y (decide_eq_true z)
        have y2 : c < 1000000000000000000 := Int.lt_of_lt_of_le y' (by decide)
        refine ⟨_, rfl, _, _, rfl, rfl, .inl ⟨by omega, by omega⟩, _, rfl, _, _, rfl, rfl, .inl ⟨by omega, by omega⟩, _, _, rfl, rfl, _, _, rfl, rfl, .inl ⟨_, rfl, _, _, rfl, rfl, (by show (0 : Int) < 2147483647; decide), ?_⟩⟩
        have s0 : 0 ≤ (c * 48271 + ((i0 : Int) + (i : Int)) * 69621 + 11) % 2147483647 := Int.emod_nonneg _ (by decide)
        have s1 : (c * 48271 + ((i0 : Int) + (i : Int)) * 69621 + 11) % 2147483647 < 2147483647 := Int.emod_lt_of_pos _ (by decide)
        refine ⟨12, rfl, by decide, by decide, for_range (lo := 0) (n := 12)
          (fun j σ H3 => ∃ (x6 : Option V) (s : Int) (ds : List Int), σ = [some (.ref a), some (.int (i0 : Int)), some (.int (j0 : Int)), some (.ref p), some (.int ((i0 : Int) + (i : Int))), some (.int c), x6, some (.int s)] ∧ 0 ≤ s ∧ s < 2147483647 ∧ Oth [] H H3 ∧ H3 p = some (.lst (ds.map V.int)) ∧ ds.length ≤ 60 * i + j)
          ⟨x6, _, ds, rfl, s0, s1, o1, hp1, by omega⟩ (fun j σ H3 hj hW => ?_) (fun σ H3 hW => ?_)⟩
        · obtain ⟨x6, s', ds, rfl, t0, t1, o3, hp3, hd3⟩ := hW
          have hs : (ds.map V.int).length < sizeLine := by rw [List.length_map]; exact Nat.lt_of_le_of_lt (by omega : ds.length ≤ 100000) (by decide)
          refine ⟨_, rfl, _, _, rfl, rfl, .inl ⟨by omega, by omega⟩, _, rfl, _, _, rfl, rfl, .inl ⟨by decide, by decide⟩, _, _, rfl, rfl, _, _, rfl, rfl, .inl ⟨_, rfl, _, _, rfl, rfl, (by show (0 : Int) < 2147483647; decide), ?_⟩⟩
          refine ⟨_, rfl, .inl ⟨rfl, _, SqL.of hp3⟩, _, rfl, _, _, rfl, rfl, ⟨by decide, by decide⟩, .inl ⟨_, rfl, _, _, rfl, rfl, (by show (0 : Int) < 1000; decide), p, _, _, rfl, rfl, hp3, hs, ?_⟩⟩
          refine ⟨_, _, ds ++ [((s' * 16807 + 7 * (0 + (j : Int)) + 1) % 2147483647 / 997) % 1000], rfl, Int.emod_nonneg _ (by decide), Int.emod_lt_of_pos _ (by decide), (((o3.mono (S' := [p]) (by simp)).trans (Oth.put (by simp) hp3)).drop hp), ?_, ?_⟩
          · rw [upd_same, List.map_append]; rfl
          · rw [List.length_append]; simp; omega
        · obtain ⟨x6, s', ds, rfl, t0, t1, o3, hp3, hd3⟩ := hW
          exact ⟨_, _, _, _, ds, rfl, o3, hp3, by omega⟩
  · obtain ⟨x4, x5, x6, x7, ds, rfl, o1, hp1, hds⟩ := hW
    exact ⟨_, rfl, q p H1 ds hp o1 hp1⟩
end
end Pw
namespace Pw
open PySem PySem.Spec PyProof.Rows L2
abbrev sSame : Stmt := topS 9
theorem scSame : FnScope ["actual", "expected", "k"] ["actual", "expected"] (defScope sSame) := ⟨rfl, rfl, rfl, by decide +kernel, rfl, by decide +kernel, by decide +kernel⟩
section
variable {P : Program} {w : World} {K : PySem.W.Frag} {mg : Str → Option Value} {base : Heap}
theorem ok_same {f : Addr} {fd : FuncData} {k n : Nat} (F : Fun K "_law_same" "_law_same" sSame f fd)
    (GS : FnOk P w K mg base CX0 k f fd ["actual", "expected"] (spSame n)) (bS : Binds K fd ["actual", "expected"] []) (kS : PySem.W.keepIn K (.ref f) = true) (mS : mg "_law_same" = some (.ref f))
    (m_isinstance : mg "isinstance" = none) (m_tuple : mg "tuple" = none) (m_len : mg "len" = none) (m_range : mg "range" = none) (m_bool : mg "bool" = none) (m_int : mg "int" = none) (m_str : mg "str" = none) :
    FnOk P w K mg base CX0 (k + 1) f fd ["actual", "expected"] (spSame (n + 1)) := by
  refine F.ok scSame (fun vs H Q E h => ?_) (fun cdv A outer s H vs Q E hr h => ?_)
  · obtain ⟨t, v, u, rfl, _⟩ := h
    rfl
  obtain ⟨t, v, u, rfl, hv, hu, hd, q⟩ := h
  have nd := scSame.nd
  refine ⟨_, (pss_cons (ps_if (pt_val (pe_callB call_isi (by rfl) m_isinstance bo_isi (pa_cons (pv 1) (pa_cons (pe_bltn (v := .ty "tuple") (by rfl) m_tuple bo_tuple rfl) pa_nil))))
  (pss_cons (ps_if (PW.pt (pw_or (pt_not (pt_val (pe_callB call_isi (by rfl) m_isinstance bo_isi (pa_cons (pv 0) (pa_cons (pe_bltn (v := .ty "tuple") (by rfl) m_tuple bo_tuple rfl) pa_nil))))) (pw_or1 (pt_cmpR op_ne (pe_callB call_len_seq (by rfl) m_len PySem.boot_len (pa_cons (pv 0) pa_nil)) (pe_callB call_len_seq (by rfl) m_len PySem.boot_len (pa_cons (pv 1) pa_nil)) (nomark _)))))
  (pss_one (ps_ret pe_bl))
  pss_nil)
  (pss_cons (ps_for PassesOwn.never rfl (pi_range1 (by rfl) m_range (pa_cons (pe_callB call_len_seq (by rfl) m_len PySem.boot_len (pa_cons (pv 1) pa_nil)) pa_nil)) (pg_name (i := 2) nd rfl (.inl rfl))
  (pss_one (ps_if (pt_not (pt_val (pe_call GS hr rfl mS kS bS .nil pass0 (pa_cons (pe_ix ix_tup (pv 0) (pv 2) (fun _ _ => rfl)) (pa_cons (pe_ix ix_tup (pv 1) (pv 2) (fun _ _ => rfl)) pa_nil)))))
  (pss_one (ps_ret pe_bl))
  pss_nil)))
  (pss_one (ps_ret pe_bl))))
  pss_nil)
  (pss_cons (ps_if (pt_cmpR op_isN (pv 1) pe_non (nomark _))
  (pss_one (ps_ret (pe_cmpR op_isN (pv 0) pe_non (nomark _))))
  pss_nil)
  (pss_cons (ps_if (pt_val (pe_callB call_isi (by rfl) m_isinstance bo_isi (pa_cons (pv 1) (pa_cons (pe_bltn (v := .ty "bool") (by rfl) m_bool bo_bool rfl) pa_nil))))
  (pss_one (ps_ret (pe_and (pe_callB call_isi (by rfl) m_isinstance bo_isi (pa_cons (pv 0) (pa_cons (pe_bltn (v := .ty "bool") (by rfl) m_bool bo_bool rfl) pa_nil))) (pe_one (pe_cmpR op_eq (pv 0) (pv 1) (nomark _))))))
  pss_nil)
  (pss_cons (ps_if (pt_val (pe_callB call_isi (by rfl) m_isinstance bo_isi (pa_cons (pv 1) (pa_cons (pe_bltn (v := .ty "int") (by rfl) m_int bo_int rfl) pa_nil))))
  (pss_one (ps_ret (pe_and (pe_callB call_isi (by rfl) m_isinstance bo_isi (pa_cons (pv 0) (pa_cons (pe_bltn (v := .ty "int") (by rfl) m_int bo_int rfl) pa_nil))) (pe_and (pe_not (pe_callB call_isi (by rfl) m_isinstance bo_isi (pa_cons (pv 0) (pa_cons (pe_bltn (v := .ty "bool") (by rfl) m_bool bo_bool rfl) pa_nil)))) (pe_one (pe_cmpR op_eq (pv 0) (pv 1) (nomark _)))))))
  pss_nil)
  (pss_one (ps_ret (pe_and (pe_callB call_isi (by rfl) m_isinstance bo_isi (pa_cons (pv 0) (pa_cons (pe_bltn (v := .ty "str") (by rfl) m_str bo_str rfl) pa_nil))) (pe_one (pe_cmpR op_eq (pv 0) (pv 1) (nomark _)))))))))), ?_⟩
  cases hd with
  | non _ =>
    obtain rfl := hv.of_non
    obtain rfl := hu.of_non
    refine ⟨_, rfl, _, _, _, _, false, rfl, .ty "tuple", hu.ty, kit_ty kb_NoneType_tuple, _, rfl, iteF ?_⟩
    refine ⟨_, rfl, rfl, _, rfl, iteT ⟨_, rfl, rfl, ?_⟩⟩
    exact q
  | int _ i =>
    obtain rfl := hv.of_int
    obtain rfl := hu.of_int
    refine ⟨_, rfl, _, _, _, _, false, rfl, .ty "tuple", hu.ty, kit_ty kb_int_tuple, _, rfl, iteF ?_⟩
    refine ⟨_, rfl, rfl, _, rfl, iteF ?_⟩
    refine ⟨_, rfl, _, _, _, _, false, rfl, .ty "bool", hu.ty, kit_ty kb_int_bool, _, rfl, iteF ?_⟩
    refine ⟨_, rfl, _, _, _, _, true, rfl, .ty "int", hu.ty, kit_ty kb_int_int, _, rfl, iteT ?_⟩
    refine ⟨_, rfl, _, _, _, _, true, rfl, .ty "int", hu.ty, kit_ty kb_int_int, _, rfl, iteT ?_⟩
    refine ⟨_, rfl, _, _, _, _, false, rfl, .ty "bool", hu.ty, kit_ty kb_int_bool, _, rfl, _, rfl, iteT ?_⟩
    refine ⟨_, rfl, _, rfl, rfl, ?_⟩
    rw [decide_eq_true rfl]
    exact q
  | str _ x =>
    obtain rfl := hv.of_str
    obtain rfl := hu.of_str
    refine ⟨_, rfl, _, _, _, _, false, rfl, .ty "tuple", hu.ty, kit_ty kb_str_tuple, _, rfl, iteF ?_⟩
    refine ⟨_, rfl, rfl, _, rfl, iteF ?_⟩
    refine ⟨_, rfl, _, _, _, _, false, rfl, .ty "bool", hu.ty, kit_ty kb_str_bool, _, rfl, iteF ?_⟩
    refine ⟨_, rfl, _, _, _, _, false, rfl, .ty "int", hu.ty, kit_ty kb_str_int, _, rfl, iteF ?_⟩
    refine ⟨_, rfl, _, _, _, _, true, rfl, .ty "str", hu.ty, kit_ty kb_str_str, _, rfl, iteT ?_⟩
    refine ⟨_, rfl, _, rfl, rfl, ?_⟩
    rw [decide_eq_true rfl]
    exact q
  | tup _ ts hz hts =>
    obtain ⟨a, xs, rfl, ea, pa⟩ := hv.inv
    obtain ⟨b, ys, rfl, eb, pb⟩ := hu.inv
    have la := (paired_get pa).1
    have lb := (paired_get pb).1
    refine ⟨_, rfl, _, _, _, _, true, rfl, .ty "tuple", hu.ty, kit_ty kb_tuple_tuple, _, rfl, iteT ?_⟩
    refine ⟨_, rfl, _, _, _, _, true, rfl, .ty "tuple", hv.ty, kit_ty kb_tuple_tuple, _, rfl, iteF ?_⟩
    refine ⟨_, rfl, a, _, rfl, .inr (SqT.of ea), _, rfl, b, _, rfl, .inr (SqT.of eb), rfl, _, rfl, ?_⟩
    rw [la, lb, decide_eq_true rfl]
    refine iteF ?_
    refine ⟨_, rfl, b, _, rfl, .inr (SqT.of eb), _, rfl, by omega, by omega, for_range (lo := 0) (n := ((ys.length : Nat) : Int).toNat)
      (fun i σ H1 => H1 = H ∧ ∃ x2 : Option V, σ = [some (.ref a), some (.ref b), x2]) ⟨rfl, none, rfl⟩ (fun i σ H1 hi hW => ?_) (fun σ H1 hW => ?_)⟩
    · obtain ⟨rfl, x2, rfl⟩ := hW
      have hi1 : i < ts.length := by omega
      have ga : xs[i]? = some xs[i] := List.getElem?_eq_getElem (by omega)
      have gb : ys[i]? = some ys[i] := List.getElem?_eq_getElem (by omega)
      have gt : ts[i]? = some ts[i] := List.getElem?_eq_getElem hi1
      refine ⟨_, rfl, _, rfl, a, _, (i : Int), _, rfl, by rw [Int.zero_add], SqT.of ea, atI_nat ga, _, rfl, _, rfl, b, _, (i : Int), _, rfl, by rw [Int.zero_add], SqT.of eb, atI_nat gb, ?_⟩
      refine ⟨ts[i], _, _, rfl, (paired_get pa).2 i _ _ gt ga, (paired_get pb).2 i _ _ gt gb, hts _ (List.getElem_mem hi1), _, rfl, ?_⟩
      exact iteF ⟨rfl, _, rfl⟩
    · obtain ⟨rfl, x2, rfl⟩ := hW
      exact q
end
end Pw
namespace Pw
open PySem PySem.Spec PyProof.Rows L2
abbrev sWide : Stmt := topS 10
theorem scWide : FnScope ["box", "depth", "kind", "leaves", "one", "two"] ["box", "depth"] (defScope sWide) := ⟨rfl, rfl, rfl, by decide +kernel, rfl, by decide +kernel, by decide +kernel⟩
section
variable {P : Program} {w : World} {K : PySem.W.Frag} {mg : Str → Option Value} {base : Heap}
theorem ok_wide {f g : Addr} {fd gd : FuncData} {k n : Nat} (F : Fun K "_law_wide" "_law_wide" sWide f fd)
    (GW : FnOk P w K mg base CX0 k f fd ["box", "depth"] (spWide n)) (bW : Binds K fd ["box", "depth"] []) (kW : PySem.W.keepIn K (.ref f) = true) (mW : mg "_law_wide" = some (.ref f))
    (GR : FnOk P w K mg base CX0 k g gd ["box", "many"] spDraw) (bR : Binds K gd ["box", "many"] []) (kR : PySem.W.keepIn K (.ref g) = true) (mR : mg "_law_draw" = some (.ref g)) (m_int : mg "int" = none) :
    FnOk P w K mg base CX0 (k + 1) f fd ["box", "depth"] (spWide (n + 1)) := by
  refine F.ok scWide (fun vs H Q E h => ?_) (fun cdv A outer s H vs Q E' hr h => ?_)
  · obtain ⟨b, dg, d, rfl, _⟩ := h
    rfl
  obtain ⟨b, dg, d, rfl, hdn, bx, q⟩ := h
  have nd := scWide.nd
  refine ⟨_, (pss_cons (ps_set (i := 2) nd rfl (.inl rfl) (pe_call GR hr rfl mR kR bR .nil pass0 (pa_cons (pv 0) (pa_cons pe_int pa_nil))))
  (pss_cons (ps_if (PW.pt (pw_or (pt_cmpR op_eq (pv 1) pe_int (nomark _)) (pw_or1 (pt_cmpR op_lt (pv 2) pe_int (nomark _)))))
  (pss_cons (ps_set (i := 3) nd rfl (.inl rfl) (pe_lst (pa_cons (pe_tup (pa_cons pe_str (pa_cons (pe_call GR hr rfl mR kR bR .nil pass0 (pa_cons (pv 0) (pa_cons pe_int pa_nil))) pa_nil))) (pa_cons (pe_tup (pa_cons pe_str (pa_cons (pe_op op_add pe_int (pe_call GR hr rfl mR kR bR .nil pass0 (pa_cons (pv 0) (pa_cons pe_int pa_nil)))) pa_nil))) (pa_cons (pe_tup (pa_cons pe_str (pa_cons (pe_call GR hr rfl mR kR bR .nil pass0 (pa_cons (pv 0) (pa_cons pe_int pa_nil))) pa_nil))) (pa_cons (pe_tup (pa_cons pe_str (pa_cons (pe_call GR hr rfl mR kR bR .nil pass0 (pa_cons (pv 0) (pa_cons pe_int pa_nil))) pa_nil))) (pa_cons (pe_tup (pa_cons pe_str (pa_cons (pe_call GR hr rfl mR kR bR .nil pass0 (pa_cons (pv 0) (pa_cons pe_int pa_nil))) pa_nil))) (pa_cons (pe_tup (pa_cons pe_str pa_nil)) pa_nil))))))))
  (pss_one (ps_ret (pe_ix ix_list (pv 3) (pe_op op_mod (pe_callTy call_int1 (by rfl) m_int bo_int (pa_cons (pv 2) pa_nil)) pe_int) (fun _ _ => rfl)))))
  pss_nil)
  (pss_cons (ps_set (i := 4) nd rfl (.inl rfl) (pe_call GW hr rfl mW kW bW .nil pass0 (pa_cons (pv 0) (pa_cons (pe_op op_sub (pv 1) pe_int) pa_nil))))
  (pss_cons (ps_set (i := 5) nd rfl (.inl rfl) (pe_call GW hr rfl mW kW bW .nil pass0 (pa_cons (pv 0) (pa_cons (pe_op op_sub (pv 1) pe_int) pa_nil))))
  (pss_cons (ps_if (pt_cmpR op_gt (pv 2) pe_int (nomark _))
  (pss_one (ps_ret (pe_tup (pa_cons pe_str (pa_cons (pv 4) (pa_cons (pv 5) (pa_cons (pe_call GW hr rfl mW kW bW .nil pass0 (pa_cons (pv 0) (pa_cons (pe_op op_sub (pv 1) pe_int) pa_nil))) pa_nil)))))))
  pss_nil)
  (pss_one (ps_ret (pe_tup (pa_cons (pe_ix ix_list (pe_lst (pa_cons pe_str (pa_cons pe_str (pa_cons pe_str (pa_cons pe_str pa_nil))))) (pe_op op_mod (pe_callTy call_int1 (by rfl) m_int bo_int (pa_cons (pv 2) pa_nil)) pe_int) (fun _ _ => rfl)) (pa_cons (pv 4) (pa_cons (pv 5) pa_nil))))))))))), ?_⟩
  refine ⟨_, rfl, b, dg, 12, [], rfl, by decide, bx, fun kind H0 k0 k1 bx0 o0 => ?_⟩
  refine ⟨_, rfl, rfl, _, rfl, ?_⟩
  refine (fun leaf => ite2 (fun c => iteT leaf) (fun c => ⟨_, rfl, _, _, rfl, rfl, _, rfl, ite2 (fun c2 => leaf) (fun c2 => ?node)⟩)) ?leaf
  case node =>
    have hk6 : ¬ kind < 6 := of_decide_eq_false (Bool.eq_false_iff.mpr c2)
    obtain ⟨d', rfl⟩ : ∃ d', d = d' + 1 := by
      cases d with
      | zero => exact absurd (show decide (V.int ((0 : Nat) : Int) = V.int 0) = true from decide_eq_true rfl) c
      | succ d' => exact ⟨d', rfl⟩
    have hd' : ([V.ref b, V.int (((d' + 1 : Nat) : Int) - 1)] : List V) = [V.ref b, V.int (d' : Int)] := by rw [show ((d' + 1 : Nat) : Int) - 1 = (d' : Int) by omega]
    have h3 : 3 ^ (d' + 1) = 3 * 3 ^ d' := by rw [Nat.pow_succ, Nat.mul_comm]
    refine ⟨_, rfl, _, rfl, _, _, rfl, rfl, b, dg, d', hd', by omega, bx0, fun e1 v1 H1 d1 z1 t1 bx1 o1 => ?_⟩
    refine ⟨_, rfl, _, rfl, _, _, rfl, rfl, b, dg, d', hd', by omega, bx1, fun e2 v2 H2 d2 z2 t2 bx2 o2 => ?_⟩
    refine ⟨_, rfl, _, _, rfl, rfl, _, rfl, ite2 (fun c3 => ?_) (fun c3 => ?_)⟩
    · refine ⟨_, rfl, _, rfl, _, rfl, _, rfl, _, _, rfl, rfl, b, dg, d', hd', by omega, bx2, fun e3 v3 H3 d3 z3 t3 bx3 o3 => ⟨sz, fun p hp => ?_⟩⟩
      have on : Oth [b] H3 (upd H3 p (.tup [.str "if", v1, v2, v3])) := Oth.new hp
      refine q (.ite e1 e2 e3) _ _ (by simp only [E.depth]; omega) (by simp only [E.size]; omega) ?_ (bx3.new hp) (o0.trans (o1.trans (o2.trans (o3.trans on))))
      exact IsT.mk4 upd_same (.str _) (((t1.oth o2).oth o3).oth on) ((t2.oth o3).oth on) (t3.oth on)
    · have hk9 : ¬ kind > 9 := of_decide_eq_false (Bool.eq_false_iff.mpr c3)
      have fin : ∀ (x : Str) (mk : E → E → E), (∀ a b, (mk a b).depth = max a.depth b.depth + 1) → (∀ a b, (mk a b).size = a.size + b.size) → (∀ a b, (mk a b).toT = .tup [.str x, a.toT, b.toT]) → ∀ H3 p, Oth [b] H2 H3 → Box H3 b dg [] → H3 p = none →
          Q (.ref p) (upd H3 p (.tup [.str x, v1, v2])) := fun x mk h1 h2 h4 H3 p o3 bx3 hp => by
        have on : Oth [b] H3 (upd H3 p (.tup [.str x, v1, v2])) := Oth.new hp
        refine q (mk e1 e2) _ _ (by rw [h1]; omega) (by rw [h2]; omega) ?_ (bx3.new hp) (o0.trans (o1.trans (o2.trans (o3.trans on))))
        rw [h4]
        exact IsT.mk3 upd_same (.str _) (((t1.oth o2).oth o3).oth on) ((t2.oth o3).oth on)
      have cs : kind % 4 = 0 ∨ kind % 4 = 1 ∨ kind % 4 = 2 ∨ kind % 4 = 3 := by omega
      refine ⟨sz, fun l hl => ⟨_, rfl, .inl ⟨_, rfl, _, _, rfl, rfl, (by show (0 : Int) < 4; decide), l, _, _, ?zzv, rfl, rfl, SqL.of upd_same, ?zza, ?zzb⟩⟩⟩
      case zzv => exact if kind % 4 = 0 then .str "plus" else if kind % 4 = 1 then .str "minus" else if kind % 4 = 2 then .str "same" else .str "less"
      case zza => rcases cs with e | e | e | e <;> rw [e] <;> first | exact at0 | exact at1 | exact at2 | exact at3
      case zzb =>
        refine ⟨_, rfl, _, rfl, sz, fun p hp => ?_⟩
        have ol : Oth [b] H2 (upd H2 l (.lst [.str "plus", .str "minus", .str "same", .str "less"])) := Oth.new hl
        rcases cs with e | e | e | e
        · rw [if_pos e]; exact fin "plus" .plus (fun _ _ => rfl) (fun _ _ => rfl) (fun _ _ => rfl) _ p ol (bx2.new hl) hp
        · rw [if_neg (by omega), if_pos e]; exact fin "minus" .minus (fun _ _ => rfl) (fun _ _ => rfl) (fun _ _ => rfl) _ p ol (bx2.new hl) hp
        · rw [if_neg (by omega), if_neg (by omega), if_pos e]; exact fin "same" .same (fun _ _ => rfl) (fun _ _ => rfl) (fun _ _ => rfl) _ p ol (bx2.new hl) hp
        · rw [if_neg (by omega), if_neg (by omega), if_neg (by omega)]; exact fin "less" .less (fun _ _ => rfl) (fun _ _ => rfl) (fun _ _ => rfl) _ p ol (bx2.new hl) hp
  case leaf =>
    refine ⟨_, rfl, b, dg, 4, [], rfl, by decide, bx0, fun r1 H1 l1 u1 bx1 o1 => ⟨sz, fun p1 hp1 => ?_⟩⟩
    refine ⟨_, rfl, b, dg, 4, [], rfl, by decide, bx1.new hp1, fun r2 H2 l2 u2 bx2 o2 => ⟨_, _, rfl, rfl, sz, fun p2 hp2 => ?_⟩⟩
    refine ⟨_, rfl, b, dg, 5, [], rfl, by decide, bx2.new hp2, fun r3 H3 l3 u3 bx3 o3 => ⟨sz, fun p3 hp3 => ?_⟩⟩
    refine ⟨_, rfl, b, dg, 4, [], rfl, by decide, bx3.new hp3, fun r4 H4 l4 u4 bx4 o4 => ⟨sz, fun p4 hp4 => ?_⟩⟩
    refine ⟨_, rfl, b, dg, 4, [], rfl, by decide, bx4.new hp4, fun r5 H5 l5 u5 bx5 o5 => ⟨sz, fun p5 hp5 => ?_⟩⟩
    refine ⟨sz, fun p6 hp6 => ⟨sz, fun l hl => ?_⟩⟩
    have cs : kind % 6 = 0 ∨ kind % 6 = 1 ∨ kind % 6 = 2 ∨ kind % 6 = 3 ∨ kind % 6 = 4 ∨ kind % 6 = 5 := by omega
    refine ⟨_, rfl, _, rfl, .inl ⟨_, rfl, _, _, rfl, rfl, (by show (0 : Int) < 6; decide), l, _, _, ?yyv, rfl, rfl, SqL.of upd_same, ?yya, ?yyb⟩⟩
    case yyv => exact if kind % 6 = 0 then .ref p1 else if kind % 6 = 1 then .ref p2 else if kind % 6 = 2 then .ref p3 else if kind % 6 = 3 then .ref p4 else if kind % 6 = 4 then .ref p5 else .ref p6
    case yya => rcases cs with e | e | e | e | e | e <;> rw [e] <;> first | exact at0 | exact at1 | exact at2 | exact at3 | exact at4 | exact at5
    case yyb =>
      obtain ⟨n3, rfl⟩ := Int.eq_ofNat_of_zero_le l3
      obtain ⟨n4, rfl⟩ := Int.eq_ofNat_of_zero_le l4
      obtain ⟨n5, rfl⟩ := Int.eq_ofNat_of_zero_le l5
      have g6 := Oth.new (S := [b]) (o := .lst [.ref p1, .ref p2, .ref p3, .ref p4, .ref p5, .ref p6]) hl
      have g5 := (Oth.new (S := [b]) (o := .tup [.str "index"]) hp6).trans g6
      have g4 := o5.trans ((Oth.new (S := [b]) (o := .tup [.str "store", .int (n5 : Int)]) hp5).trans g5)
      have g3 := o4.trans ((Oth.new (S := [b]) (o := .tup [.str "prop", .int (n4 : Int)]) hp4).trans g4)
      have g2 := o3.trans ((Oth.new (S := [b]) (o := .tup [.str "cell", .int (n3 : Int)]) hp3).trans g3)
      have g1 := o2.trans ((Oth.new (S := [b]) (o := .tup [.str "num", .int (996 + r2)]) hp2).trans g2)
      have g0 := o0.trans (o1.trans ((Oth.new (S := [b]) (o := .tup [.str "num", .int r1]) hp1).trans g1))
      have bxf := ((bx5.new (o := .tup [.str "store", .int (n5 : Int)]) hp5).new (o := .tup [.str "index"]) hp6).new (o := .lst [.ref p1, .ref p2, .ref p3, .ref p4, .ref p5, .ref p6]) hl
      have one : 1 ≤ 3 ^ d := Nat.succ_le_of_lt (Nat.pow_pos (by decide))
      rcases cs with e | e | e | e | e | e
      · rw [if_pos e]; exact q (.num r1) _ _ (Nat.zero_le _) one (IsT.mk2 (g1.tup _ _ upd_same) (.str _) (.int _)) bxf g0
      · rw [if_neg (by omega), if_pos e]; exact q (.num (996 + r2)) _ _ (Nat.zero_le _) one (IsT.mk2 (g2.tup _ _ upd_same) (.str _) (.int _)) bxf g0
      · rw [if_neg (by omega), if_neg (by omega), if_pos e]; exact q (.cell n3) _ _ (Nat.zero_le _) one (IsT.mk2 (g3.tup _ _ upd_same) (.str _) (.int _)) bxf g0
      · rw [if_neg (by omega), if_neg (by omega), if_neg (by omega), if_pos e]; exact q (.prop n4) _ _ (Nat.zero_le _) one (IsT.mk2 (g4.tup _ _ upd_same) (.str _) (.int _)) bxf g0
      · rw [if_neg (by omega), if_neg (by omega), if_neg (by omega), if_neg (by omega), if_pos e]; exact q (.store n5) _ _ (Nat.zero_le _) one (IsT.mk2 (g5.tup _ _ upd_same) (.str _) (.int _)) bxf g0
      · rw [if_neg (by omega), if_neg (by omega), if_neg (by omega), if_neg (by omega), if_neg (by omega)]; exact q .index _ _ (Nat.zero_le _) one (IsT.mk1 (g6.tup _ _ upd_same) (.str _)) bxf g0
end
end Pw
namespace Pw
open PySem PySem.Spec PyProof.Rows L2
abbrev sLawValue : Stmt := topS 11
theorem scLawValue : FnScope ["e", "scope", "looked", "row", "one", "two"] ["e", "scope", "looked"] (defScope sLawValue) := ⟨rfl, rfl, rfl, by decide +kernel, rfl, by decide +kernel, by decide +kernel⟩
section
variable {P : Program} {w : World} {K : PySem.W.Frag} {mg : Str → Option Value} {base : Heap}
theorem ok_lawvalue {f : Addr} {fd : FuncData} {k n : Nat} (F : Fun K "_law_value" "_law_value" sLawValue f fd)
    (GV : FnOk P w K mg base CX0 k f fd ["e", "scope", "looked"] (spLawValue n)) (bV : Binds K fd ["e", "scope", "looked"] []) (kV : PySem.W.keepIn K (.ref f) = true) (mV : mg "_law_value" = some (.ref f)) (m_int : mg "int" = none) (m_len : mg "len" = none) :
    FnOk P w K mg base CX0 (k + 1) f fd ["e", "scope", "looked"] (spLawValue (n + 1)) := by
  refine F.ok scLawValue (fun vs H Q E h => ?_) (fun cdv A outer s H vs Q E' hr h => ?_)
  · obtain ⟨e, c, ve, sa, ac, ap, as, l, L, rfl, _⟩ := h
    rfl
  obtain ⟨e, c, ve, sa, ac, ap, as, l, L, rfl, he, hsa, hac, hap, has, hne, hL, hd, hz, q⟩ := h
  have nd := scLawValue.nd
  refine ⟨_, (pss_cons (ps_if (pt_cmpR op_eq (pe_ix ix_tup (pv 0) pe_int (fun _ _ => rfl)) pe_str (nomark _))
  (pss_one (ps_ret (pe_ix ix_tup (pv 0) pe_int (fun _ _ => rfl))))
  pss_nil)
  (pss_cons (ps_if (pt_cmpR op_eq (pe_ix ix_tup (pv 0) pe_int (fun _ _ => rfl)) pe_str (nomark _))
  (pss_one (ps_ret (pe_ix ix_list (pv 1) pe_int (fun _ _ => rfl))))
  pss_nil)
  (pss_cons (ps_if (pt_cmpR op_in_seq (pe_ix ix_tup (pv 0) pe_int (fun _ _ => rfl)) (pe_lst (pa_cons pe_str (pa_cons pe_str (pa_cons pe_str pa_nil)))) (by rfl))
  (pss_cons (ps_set (i := 3) nd rfl (.inl rfl) (pe_ix ix_list (pv 1) (pe_bm PySem.F.plainAttrs_list PySem.F.slot_list_index PySem.F.type_list_index mt_index (pe_lst (pa_cons pe_str (pa_cons pe_str (pa_cons pe_str pa_nil)))) (pa_cons (pe_ix ix_tup (pv 0) pe_int (fun _ _ => rfl)) pa_nil)) (fun _ _ => rfl)))
  (pss_cons (ps_if (pt_cmpR op_ge (pe_ix ix_tup (pv 0) pe_int (fun _ _ => rfl)) (pe_callB call_len_seq (by rfl) m_len PySem.boot_len (pa_cons (pv 3) pa_nil)) (nomark _))
  (pss_one (ps_ret pe_int))
  pss_nil)
  (pss_cut (ps_if (pt_cmpR op_eq (pe_ix ix_tup (pv 0) pe_int (fun _ _ => rfl)) pe_str (nomark _))
  (pss_one (ps_expr (pe_bm PySem.F.plainAttrs_list PySem.F.slot_list_append PySem.F.type_list_append mt_append (pv 2) (pa_cons (pe_ix ix_tup (pv 0) pe_int (fun _ _ => rfl)) pa_nil))))
  pss_nil)
  (pss_one (ps_ret (pe_ix ix_tup (pv 3) (pe_ix ix_tup (pv 0) pe_int (fun _ _ => rfl)) (fun _ _ => rfl)))))))
  pss_nil)
  (pss_cons (ps_set (i := 4) nd rfl (.inl rfl) (pe_call GV hr rfl mV kV bV .nil pass0 (pa_cons (pe_ix ix_tup (pv 0) pe_int (fun _ _ => rfl)) (pa_cons (pv 1) (pa_cons (pv 2) pa_nil)))))
  (pss_cons (ps_if (pt_cmpR op_eq (pe_ix ix_tup (pv 0) pe_int (fun _ _ => rfl)) pe_str (nomark _))
  (pss_one (ps_ret (pe_call GV hr rfl mV kV bV .nil pass0 (pa_cons (pe_ix ix_tup (pv 0) (pe_ix ix_list (pe_lst (pa_cons pe_int (pa_cons pe_int pa_nil))) (pe_callTy call_int1 (by rfl) m_int bo_int (pa_cons (pe_cmpR op_ne (pv 4) pe_int (nomark _)) pa_nil)) (fun _ _ => rfl)) (fun _ _ => rfl)) (pa_cons (pv 1) (pa_cons (pv 2) pa_nil))))))
  pss_nil)
  (pss_cons (ps_set (i := 5) nd rfl (.inl rfl) (pe_call GV hr rfl mV kV bV .nil pass0 (pa_cons (pe_ix ix_tup (pv 0) pe_int (fun _ _ => rfl)) (pa_cons (pv 1) (pa_cons (pv 2) pa_nil)))))
  (pss_cons (ps_if (pt_cmpR op_eq (pe_ix ix_tup (pv 0) pe_int (fun _ _ => rfl)) pe_str (nomark _))
  (pss_one (ps_ret (pe_op op_mod (pe_callTy call_int1 (by rfl) m_int bo_int (pa_cons (pe_op op_add (pv 4) (pv 5)) pa_nil)) pe_int)))
  pss_nil)
  (pss_cons (ps_if (pt_cmpR op_eq (pe_ix ix_tup (pv 0) pe_int (fun _ _ => rfl)) pe_str (nomark _))
  (pss_one (ps_ret (pe_op op_mod (pe_callTy call_int1 (by rfl) m_int bo_int (pa_cons (pe_op op_sub (pv 4) (pv 5)) pa_nil)) pe_int)))
  pss_nil)
  (pss_cons (ps_if (pt_cmpR op_eq (pe_ix ix_tup (pv 0) pe_int (fun _ _ => rfl)) pe_str (nomark _))
  (pss_one (ps_ret (pe_callTy call_int1 (by rfl) m_int bo_int (pa_cons (pe_cmpR op_eq (pv 4) (pv 5) (nomark _)) pa_nil))))
  pss_nil)
  (pss_one (ps_ret (pe_callTy call_int1 (by rfl) m_int bo_int (pa_cons (pe_cmpR op_lt (pv 4) (pv 5) (nomark _)) pa_nil))))))))))))), ?_⟩
  cases e with
  | num m =>
    obtain ⟨a, _, _, rfl, ha, p0, p1⟩ := IsT.inv2 he
    obtain rfl := p0.of_str
    obtain rfl := p1.of_int
    refine ⟨_, rfl, a, _, _, _, rfl, rfl, SqT.of ha, at0, rfl, _, rfl, iteTd rfl ?_⟩
    refine ⟨_, rfl, a, _, _, _, rfl, rfl, SqT.of ha, at1, ?_⟩
    exact q H (by simpa [E.looks] using hL) Oth.refl
  | cell m =>
    obtain ⟨a, _, _, rfl, ha, p0, p1⟩ := IsT.inv2 he
    obtain rfl := p0.of_str
    obtain rfl := p1.of_int
    refine ⟨_, rfl, a, _, _, _, rfl, rfl, SqT.of ha, at0, rfl, _, rfl, iteFd (by decide) ?_⟩
    refine ⟨_, rfl, a, _, _, _, rfl, rfl, SqT.of ha, at0, rfl, _, rfl, iteFd (by decide) ?_⟩
    refine ⟨_, rfl, a, _, _, _, rfl, rfl, SqT.of ha, at0, sz, fun l0 hl0 => ⟨l0, _, rfl, .inl (SqL.of upd_same), rfl, rfl, _, rfl, iteTb (by decide) ?_⟩⟩
    have o0 : Oth [l] H (upd H l0 (.lst [.str "cell", .str "prop", .str "store"])) := Oth.new hl0
    have ha0 := o0.tup _ _ ha
    have hsa0 := o0.keep sa _ (by simp [hne]) hsa
    have hL0 : (upd H l0 (.lst [.str "cell", .str "prop", .str "store"])) l = some (.lst L) := by rw [upd_ne (ne_of_none hL hl0)]; exact hL
    refine ⟨_, rfl, sz, fun l1 hl1 => ⟨.inl ⟨rfl, _, SqL.of upd_same⟩, ?_⟩⟩
    have o1 : Oth [l] (upd H l0 (.lst [.str "cell", .str "prop", .str "store"])) (upd (upd H l0 (.lst [.str "cell", .str "prop", .str "store"])) l1 (.lst [.str "cell", .str "prop", .str "store"])) := Oth.new hl1
    have ha1 := o1.tup _ _ ha0
    have hsa1 := o1.keep sa _ (by simp [hne]) hsa0
    have hL1 : (upd (upd H l0 (.lst [.str "cell", .str "prop", .str "store"])) l1 (.lst [.str "cell", .str "prop", .str "store"])) l = some (.lst L) := by rw [upd_ne (ne_of_none hL0 hl1)]; exact hL0
    have hx := o1.tup _ _ (o0.tup _ _ hac)
    refine ⟨_, rfl, a, _, _, _, rfl, rfl, SqT.of ha1, at0, l1, _, _, 0, _, rfl, rfl, SqL.of upd_same, rfl, rfl, rfl, rfl, fun m z' h => absurd h (Nat.not_lt_zero _), sa, _, _, _, rfl, rfl, SqL.of hsa1, at0, ?_⟩
    refine ⟨_, rfl, a, _, _, _, rfl, rfl, SqT.of ha1, at1, _, rfl, ac, _, rfl, .inr (SqT.of hx), _, _, rfl, rfl, _, rfl, ite2 (fun y => ?_) (fun y => ?_)⟩
    · have y' : ((c.cells.map V.int).length : Int) ≤ (m : Int) := of_decide_eq_true y
      rw [List.length_map] at y'
      have y2 : ¬ m < c.cells.length := by omega
      have q2 := q _ (by rw [hL1]; simp [E.looks]) (o0.trans o1)
      rw [E.val, getD_out y2] at q2
      exact q2
    · have y' : ¬ ((c.cells.map V.int).length : Int) ≤ (m : Int) := of_decide_eq_false (Bool.eq_false_iff.mpr y)
      rw [List.length_map] at y'
      have y2 : m < c.cells.length := by omega
      refine ⟨fun σ2 H2 => σ2 = [some (.ref a), some (.ref sa), some (.ref l), some (.ref ac), none, none] ∧ H2 = _, ⟨_, rfl, a, _, _, _, rfl, rfl, SqT.of ha1, at0, rfl, _, rfl, iteFd (by decide) ⟨rfl, rfl⟩⟩, ?_⟩
      rintro σ2 H2 ⟨rfl, rfl⟩
      refine ⟨_, rfl, _, rfl, a, _, _, _, rfl, rfl, SqT.of ha1, at1, ac, _, _, _, rfl, rfl, SqT.of hx, atI_nat (getD_of y2), ?_⟩
      exact q _ (by rw [hL1]; simp [E.looks]) (o0.trans o1)
  | prop m =>
    obtain ⟨a, _, _, rfl, ha, p0, p1⟩ := IsT.inv2 he
    obtain rfl := p0.of_str
    obtain rfl := p1.of_int
    refine ⟨_, rfl, a, _, _, _, rfl, rfl, SqT.of ha, at0, rfl, _, rfl, iteFd (by decide) ?_⟩
    refine ⟨_, rfl, a, _, _, _, rfl, rfl, SqT.of ha, at0, rfl, _, rfl, iteFd (by decide) ?_⟩
    refine ⟨_, rfl, a, _, _, _, rfl, rfl, SqT.of ha, at0, sz, fun l0 hl0 => ⟨l0, _, rfl, .inl (SqL.of upd_same), rfl, rfl, _, rfl, iteTb (by decide) ?_⟩⟩
    have o0 : Oth [l] H (upd H l0 (.lst [.str "cell", .str "prop", .str "store"])) := Oth.new hl0
    have ha0 := o0.tup _ _ ha
    have hsa0 := o0.keep sa _ (by simp [hne]) hsa
    have hL0 : (upd H l0 (.lst [.str "cell", .str "prop", .str "store"])) l = some (.lst L) := by rw [upd_ne (ne_of_none hL hl0)]; exact hL
    refine ⟨_, rfl, sz, fun l1 hl1 => ⟨.inl ⟨rfl, _, SqL.of upd_same⟩, ?_⟩⟩
    have o1 : Oth [l] (upd H l0 (.lst [.str "cell", .str "prop", .str "store"])) (upd (upd H l0 (.lst [.str "cell", .str "prop", .str "store"])) l1 (.lst [.str "cell", .str "prop", .str "store"])) := Oth.new hl1
    have ha1 := o1.tup _ _ ha0
    have hsa1 := o1.keep sa _ (by simp [hne]) hsa0
    have hL1 : (upd (upd H l0 (.lst [.str "cell", .str "prop", .str "store"])) l1 (.lst [.str "cell", .str "prop", .str "store"])) l = some (.lst L) := by rw [upd_ne (ne_of_none hL0 hl1)]; exact hL0
    have hx := o1.tup _ _ (o0.tup _ _ hap)
    refine ⟨_, rfl, a, _, _, _, rfl, rfl, SqT.of ha1, at0, l1, _, _, 1, _, rfl, rfl, SqL.of upd_same, rfl, rfl, rfl, rfl, lt1 rfl, sa, _, _, _, rfl, rfl, SqL.of hsa1, at1, ?_⟩
    refine ⟨_, rfl, a, _, _, _, rfl, rfl, SqT.of ha1, at1, _, rfl, ap, _, rfl, .inr (SqT.of hx), _, _, rfl, rfl, _, rfl, ite2 (fun y => ?_) (fun y => ?_)⟩
    · have y' : ((c.props.map V.int).length : Int) ≤ (m : Int) := of_decide_eq_true y
      rw [List.length_map] at y'
      have y2 : ¬ m < c.props.length := by omega
      have q2 := q _ (by rw [hL1]; simp [E.looks]) (o0.trans o1)
      rw [E.val, getD_out y2] at q2
      exact q2
    · have y' : ¬ ((c.props.map V.int).length : Int) ≤ (m : Int) := of_decide_eq_false (Bool.eq_false_iff.mpr y)
      rw [List.length_map] at y'
      have y2 : m < c.props.length := by omega
      refine ⟨fun σ2 H2 => σ2 = [some (.ref a), some (.ref sa), some (.ref l), some (.ref ap), none, none] ∧ H2 = _, ⟨_, rfl, a, _, _, _, rfl, rfl, SqT.of ha1, at0, rfl, _, rfl, iteFd (by decide) ⟨rfl, rfl⟩⟩, ?_⟩
      rintro σ2 H2 ⟨rfl, rfl⟩
      refine ⟨_, rfl, _, rfl, a, _, _, _, rfl, rfl, SqT.of ha1, at1, ap, _, _, _, rfl, rfl, SqT.of hx, atI_nat (getD_of y2), ?_⟩
      exact q _ (by rw [hL1]; simp [E.looks]) (o0.trans o1)
  | store m =>
    obtain ⟨a, _, _, rfl, ha, p0, p1⟩ := IsT.inv2 he
    obtain rfl := p0.of_str
    obtain rfl := p1.of_int
    refine ⟨_, rfl, a, _, _, _, rfl, rfl, SqT.of ha, at0, rfl, _, rfl, iteFd (by decide) ?_⟩
    refine ⟨_, rfl, a, _, _, _, rfl, rfl, SqT.of ha, at0, rfl, _, rfl, iteFd (by decide) ?_⟩
    refine ⟨_, rfl, a, _, _, _, rfl, rfl, SqT.of ha, at0, sz, fun l0 hl0 => ⟨l0, _, rfl, .inl (SqL.of upd_same), rfl, rfl, _, rfl, iteTb (by decide) ?_⟩⟩
    have o0 : Oth [l] H (upd H l0 (.lst [.str "cell", .str "prop", .str "store"])) := Oth.new hl0
    have ha0 := o0.tup _ _ ha
    have hsa0 := o0.keep sa _ (by simp [hne]) hsa
    have hL0 : (upd H l0 (.lst [.str "cell", .str "prop", .str "store"])) l = some (.lst L) := by rw [upd_ne (ne_of_none hL hl0)]; exact hL
    refine ⟨_, rfl, sz, fun l1 hl1 => ⟨.inl ⟨rfl, _, SqL.of upd_same⟩, ?_⟩⟩
    have o1 : Oth [l] (upd H l0 (.lst [.str "cell", .str "prop", .str "store"])) (upd (upd H l0 (.lst [.str "cell", .str "prop", .str "store"])) l1 (.lst [.str "cell", .str "prop", .str "store"])) := Oth.new hl1
    have ha1 := o1.tup _ _ ha0
    have hsa1 := o1.keep sa _ (by simp [hne]) hsa0
    have hL1 : (upd (upd H l0 (.lst [.str "cell", .str "prop", .str "store"])) l1 (.lst [.str "cell", .str "prop", .str "store"])) l = some (.lst L) := by rw [upd_ne (ne_of_none hL0 hl1)]; exact hL0
    have hx := o1.tup _ _ (o0.tup _ _ has)
    refine ⟨_, rfl, a, _, _, _, rfl, rfl, SqT.of ha1, at0, l1, _, _, 2, _, rfl, rfl, SqL.of upd_same, rfl, rfl, rfl, rfl, lt2 rfl rfl, sa, _, _, _, rfl, rfl, SqL.of hsa1, at2, ?_⟩
    refine ⟨_, rfl, a, _, _, _, rfl, rfl, SqT.of ha1, at1, _, rfl, as, _, rfl, .inr (SqT.of hx), _, _, rfl, rfl, _, rfl, ite2 (fun y => ?_) (fun y => ?_)⟩
    · have y' : ((c.store.map V.int).length : Int) ≤ (m : Int) := of_decide_eq_true y
      rw [List.length_map] at y'
      have y2 : ¬ m < c.store.length := by omega
      have q2 := q _ (by rw [hL1]; rw [E.looks, if_neg y2]; simp) (o0.trans o1)
      rw [E.val, getD_out y2] at q2
      exact q2
    · have y' : ¬ ((c.store.map V.int).length : Int) ≤ (m : Int) := of_decide_eq_false (Bool.eq_false_iff.mpr y)
      rw [List.length_map] at y'
      have y2 : m < c.store.length := by omega
      have hs : L.length < sizeLine := Nat.lt_of_le_of_lt (by omega : L.length ≤ 100000) (by decide)
      have o2 : Oth [l] (upd (upd H l0 (.lst [.str "cell", .str "prop", .str "store"])) l1 (.lst [.str "cell", .str "prop", .str "store"])) (upd (upd (upd H l0 (.lst [.str "cell", .str "prop", .str "store"])) l1 (.lst [.str "cell", .str "prop", .str "store"])) l (.lst (L ++ [.int (m : Int)]))) := Oth.put (by simp) hL1
      refine ⟨fun σ2 H2 => σ2 = [some (.ref a), some (.ref sa), some (.ref l), some (.ref as), none, none] ∧ H2 = _, ⟨_, rfl, a, _, _, _, rfl, rfl, SqT.of ha1, at0, rfl, _, rfl, iteTd rfl ⟨_, rfl, .inl ⟨rfl, _, SqL.of hL1⟩, _, rfl, a, _, _, _, rfl, rfl, SqT.of ha1, at1, l, _, _, rfl, rfl, hL1, hs, rfl, rfl⟩⟩, ?_⟩
      rintro σ2 H2 ⟨rfl, rfl⟩
      refine ⟨_, rfl, _, rfl, a, _, _, _, rfl, rfl, SqT.of (o2.tup _ _ ha1), at1, as, _, _, _, rfl, rfl, SqT.of (o2.tup _ _ hx), atI_nat (getD_of y2), ?_⟩
      exact q _ (by rw [upd_same, E.looks, if_pos y2]; rfl) (o0.trans (o1.trans o2))
  | index =>
    obtain ⟨a, _, rfl, ha, p0⟩ := IsT.inv1 he
    obtain rfl := p0.of_str
    refine ⟨_, rfl, a, _, _, _, rfl, rfl, SqT.of ha, at0, rfl, _, rfl, iteFd (by decide) ?_⟩
    refine ⟨_, rfl, a, _, _, _, rfl, rfl, SqT.of ha, at0, rfl, _, rfl, iteTd rfl ?_⟩
    refine ⟨_, rfl, sa, _, _, _, rfl, rfl, SqL.of hsa, at3, ?_⟩
    exact q H (by simpa [E.looks] using hL) Oth.refl
  | plus e1 e2 =>
    obtain ⟨a, _, v1, v2, rfl, ha, p0, p1, p2⟩ := IsT.inv3 he
    obtain rfl := p0.of_str
    have z1 := E.size_pos e1
    have z2 := E.size_pos e2
    simp only [E.depth, E.size] at hd hz
    have z3 := E.looks_le c e1
    refine ⟨_, rfl, a, _, _, _, rfl, rfl, SqT.of ha, at0, rfl, _, rfl, iteFd (by decide) ?_⟩
    refine ⟨_, rfl, a, _, _, _, rfl, rfl, SqT.of ha, at0, rfl, _, rfl, iteFd (by decide) ?_⟩
    refine ⟨_, rfl, a, _, _, _, rfl, rfl, SqT.of ha, at0, sz, fun l0 hl0 => ⟨l0, _, rfl, .inl (SqL.of upd_same), rfl, rfl, _, rfl, iteFb (by decide) ?_⟩⟩
    have o0 : Oth [l] H (upd H l0 (.lst [.str "cell", .str "prop", .str "store"])) := Oth.new hl0
    have ha0 := o0.tup _ _ ha
    have hsa0 := o0.keep sa _ (by simp [hne]) hsa
    have hL0 : (upd H l0 (.lst [.str "cell", .str "prop", .str "store"])) l = some (.lst L) := by rw [upd_ne (ne_of_none hL hl0)]; exact hL
    refine ⟨_, rfl, a, _, _, _, rfl, rfl, SqT.of ha0, at1, _, rfl, _, rfl, e1, c, _, sa, ac, ap, as, l, L, rfl, p1.oth o0, hsa0, o0.tup _ _ hac, o0.tup _ _ hap, o0.tup _ _ has, hne, hL0, by omega, by omega, fun H1 hL1 o1 => ?_⟩
    have o01 := o0.trans o1
    have ha1 := o1.tup _ _ ha0
    have hsa1 := o1.keep sa _ (by simp [hne]) hsa0
    refine ⟨_, rfl, a, _, _, _, rfl, rfl, SqT.of ha1, at0, rfl, _, rfl, iteFd (by decide) ?_⟩
    refine ⟨_, rfl, a, _, _, _, rfl, rfl, SqT.of ha1, at2, _, rfl, _, rfl, e2, c, _, sa, ac, ap, as, l, _, rfl, p2.oth o01, hsa1, o01.tup _ _ hac, o01.tup _ _ hap, o01.tup _ _ has, hne, hL1, by omega, by simp only [List.length_append, List.length_map]; omega, fun H2 hL2 o2 => ?_⟩
    have ha2 := o2.tup _ _ ha1
    have fin : H2 l = some (.lst (L ++ (e1.looks c ++ e2.looks c).map V.int)) := by rw [hL2, List.map_append, List.append_assoc]
    have q2 := q H2 fin (o01.trans o2)
    refine ⟨_, rfl, a, _, _, _, rfl, rfl, SqT.of ha2, at0, rfl, _, rfl, iteTd rfl ?_⟩
    exact ⟨_, rfl, _, rfl, _, _, rfl, rfl, .inl ⟨_, rfl, _, _, rfl, rfl, (by show (0 : Int) < 1000; decide), q2⟩⟩
  | minus e1 e2 =>
    obtain ⟨a, _, v1, v2, rfl, ha, p0, p1, p2⟩ := IsT.inv3 he
    obtain rfl := p0.of_str
    have z1 := E.size_pos e1
    have z2 := E.size_pos e2
    simp only [E.depth, E.size] at hd hz
    have z3 := E.looks_le c e1
    refine ⟨_, rfl, a, _, _, _, rfl, rfl, SqT.of ha, at0, rfl, _, rfl, iteFd (by decide) ?_⟩
    refine ⟨_, rfl, a, _, _, _, rfl, rfl, SqT.of ha, at0, rfl, _, rfl, iteFd (by decide) ?_⟩
    refine ⟨_, rfl, a, _, _, _, rfl, rfl, SqT.of ha, at0, sz, fun l0 hl0 => ⟨l0, _, rfl, .inl (SqL.of upd_same), rfl, rfl, _, rfl, iteFb (by decide) ?_⟩⟩
    have o0 : Oth [l] H (upd H l0 (.lst [.str "cell", .str "prop", .str "store"])) := Oth.new hl0
    have ha0 := o0.tup _ _ ha
    have hsa0 := o0.keep sa _ (by simp [hne]) hsa
    have hL0 : (upd H l0 (.lst [.str "cell", .str "prop", .str "store"])) l = some (.lst L) := by rw [upd_ne (ne_of_none hL hl0)]; exact hL
    refine ⟨_, rfl, a, _, _, _, rfl, rfl, SqT.of ha0, at1, _, rfl, _, rfl, e1, c, _, sa, ac, ap, as, l, L, rfl, p1.oth o0, hsa0, o0.tup _ _ hac, o0.tup _ _ hap, o0.tup _ _ has, hne, hL0, by omega, by omega, fun H1 hL1 o1 => ?_⟩
    have o01 := o0.trans o1
    have ha1 := o1.tup _ _ ha0
    have hsa1 := o1.keep sa _ (by simp [hne]) hsa0
    refine ⟨_, rfl, a, _, _, _, rfl, rfl, SqT.of ha1, at0, rfl, _, rfl, iteFd (by decide) ?_⟩
    refine ⟨_, rfl, a, _, _, _, rfl, rfl, SqT.of ha1, at2, _, rfl, _, rfl, e2, c, _, sa, ac, ap, as, l, _, rfl, p2.oth o01, hsa1, o01.tup _ _ hac, o01.tup _ _ hap, o01.tup _ _ has, hne, hL1, by omega, by simp only [List.length_append, List.length_map]; omega, fun H2 hL2 o2 => ?_⟩
    have ha2 := o2.tup _ _ ha1
    have fin : H2 l = some (.lst (L ++ (e1.looks c ++ e2.looks c).map V.int)) := by rw [hL2, List.map_append, List.append_assoc]
    have q2 := q H2 fin (o01.trans o2)
    refine ⟨_, rfl, a, _, _, _, rfl, rfl, SqT.of ha2, at0, rfl, _, rfl, iteFd (by decide) ?_⟩
    refine ⟨_, rfl, a, _, _, _, rfl, rfl, SqT.of ha2, at0, rfl, _, rfl, iteTd rfl ?_⟩
    exact ⟨_, rfl, _, rfl, _, _, rfl, rfl, .inl ⟨_, rfl, _, _, rfl, rfl, (by show (0 : Int) < 1000; decide), q2⟩⟩
  | same e1 e2 =>
    obtain ⟨a, _, v1, v2, rfl, ha, p0, p1, p2⟩ := IsT.inv3 he
    obtain rfl := p0.of_str
    have z1 := E.size_pos e1
    have z2 := E.size_pos e2
    simp only [E.depth, E.size] at hd hz
    have z3 := E.looks_le c e1
    refine ⟨_, rfl, a, _, _, _, rfl, rfl, SqT.of ha, at0, rfl, _, rfl, iteFd (by decide) ?_⟩
    refine ⟨_, rfl, a, _, _, _, rfl, rfl, SqT.of ha, at0, rfl, _, rfl, iteFd (by decide) ?_⟩
    refine ⟨_, rfl, a, _, _, _, rfl, rfl, SqT.of ha, at0, sz, fun l0 hl0 => ⟨l0, _, rfl, .inl (SqL.of upd_same), rfl, rfl, _, rfl, iteFb (by decide) ?_⟩⟩
    have o0 : Oth [l] H (upd H l0 (.lst [.str "cell", .str "prop", .str "store"])) := Oth.new hl0
    have ha0 := o0.tup _ _ ha
    have hsa0 := o0.keep sa _ (by simp [hne]) hsa
    have hL0 : (upd H l0 (.lst [.str "cell", .str "prop", .str "store"])) l = some (.lst L) := by rw [upd_ne (ne_of_none hL hl0)]; exact hL
    refine ⟨_, rfl, a, _, _, _, rfl, rfl, SqT.of ha0, at1, _, rfl, _, rfl, e1, c, _, sa, ac, ap, as, l, L, rfl, p1.oth o0, hsa0, o0.tup _ _ hac, o0.tup _ _ hap, o0.tup _ _ has, hne, hL0, by omega, by omega, fun H1 hL1 o1 => ?_⟩
    have o01 := o0.trans o1
    have ha1 := o1.tup _ _ ha0
    have hsa1 := o1.keep sa _ (by simp [hne]) hsa0
    refine ⟨_, rfl, a, _, _, _, rfl, rfl, SqT.of ha1, at0, rfl, _, rfl, iteFd (by decide) ?_⟩
    refine ⟨_, rfl, a, _, _, _, rfl, rfl, SqT.of ha1, at2, _, rfl, _, rfl, e2, c, _, sa, ac, ap, as, l, _, rfl, p2.oth o01, hsa1, o01.tup _ _ hac, o01.tup _ _ hap, o01.tup _ _ has, hne, hL1, by omega, by simp only [List.length_append, List.length_map]; omega, fun H2 hL2 o2 => ?_⟩
    have ha2 := o2.tup _ _ ha1
    have fin : H2 l = some (.lst (L ++ (e1.looks c ++ e2.looks c).map V.int)) := by rw [hL2, List.map_append, List.append_assoc]
    have q2 := q H2 fin (o01.trans o2)
    refine ⟨_, rfl, a, _, _, _, rfl, rfl, SqT.of ha2, at0, rfl, _, rfl, iteFd (by decide) ?_⟩
    refine ⟨_, rfl, a, _, _, _, rfl, rfl, SqT.of ha2, at0, rfl, _, rfl, iteFd (by decide) ?_⟩
    refine ⟨_, rfl, a, _, _, _, rfl, rfl, SqT.of ha2, at0, rfl, _, rfl, iteTd rfl ?_⟩
    refine ⟨_, rfl, _, rfl, rfl, .inr ⟨_, rfl, ?_⟩⟩
    by_cases y : e1.val c = e2.val c
    · rw [E.val, if_pos y] at q2
      rw [decide_eq_true (by rw [y] : V.int (e1.val c) = V.int (e2.val c))]
      exact q2
    · rw [E.val, if_neg y] at q2
      rw [decide_eq_false (fun z => y (V.int.inj z) : ¬ V.int (e1.val c) = V.int (e2.val c))]
      exact q2
  | less e1 e2 =>
    obtain ⟨a, _, v1, v2, rfl, ha, p0, p1, p2⟩ := IsT.inv3 he
    obtain rfl := p0.of_str
    have z1 := E.size_pos e1
    have z2 := E.size_pos e2
    simp only [E.depth, E.size] at hd hz
    have z3 := E.looks_le c e1
    refine ⟨_, rfl, a, _, _, _, rfl, rfl, SqT.of ha, at0, rfl, _, rfl, iteFd (by decide) ?_⟩
    refine ⟨_, rfl, a, _, _, _, rfl, rfl, SqT.of ha, at0, rfl, _, rfl, iteFd (by decide) ?_⟩
    refine ⟨_, rfl, a, _, _, _, rfl, rfl, SqT.of ha, at0, sz, fun l0 hl0 => ⟨l0, _, rfl, .inl (SqL.of upd_same), rfl, rfl, _, rfl, iteFb (by decide) ?_⟩⟩
    have o0 : Oth [l] H (upd H l0 (.lst [.str "cell", .str "prop", .str "store"])) := Oth.new hl0
    have ha0 := o0.tup _ _ ha
    have hsa0 := o0.keep sa _ (by simp [hne]) hsa
    have hL0 : (upd H l0 (.lst [.str "cell", .str "prop", .str "store"])) l = some (.lst L) := by rw [upd_ne (ne_of_none hL hl0)]; exact hL
    refine ⟨_, rfl, a, _, _, _, rfl, rfl, SqT.of ha0, at1, _, rfl, _, rfl, e1, c, _, sa, ac, ap, as, l, L, rfl, p1.oth o0, hsa0, o0.tup _ _ hac, o0.tup _ _ hap, o0.tup _ _ has, hne, hL0, by omega, by omega, fun H1 hL1 o1 => ?_⟩
    have o01 := o0.trans o1
    have ha1 := o1.tup _ _ ha0
    have hsa1 := o1.keep sa _ (by simp [hne]) hsa0
    refine ⟨_, rfl, a, _, _, _, rfl, rfl, SqT.of ha1, at0, rfl, _, rfl, iteFd (by decide) ?_⟩
    refine ⟨_, rfl, a, _, _, _, rfl, rfl, SqT.of ha1, at2, _, rfl, _, rfl, e2, c, _, sa, ac, ap, as, l, _, rfl, p2.oth o01, hsa1, o01.tup _ _ hac, o01.tup _ _ hap, o01.tup _ _ has, hne, hL1, by omega, by simp only [List.length_append, List.length_map]; omega, fun H2 hL2 o2 => ?_⟩
    have ha2 := o2.tup _ _ ha1
    have fin : H2 l = some (.lst (L ++ (e1.looks c ++ e2.looks c).map V.int)) := by rw [hL2, List.map_append, List.append_assoc]
    have q2 := q H2 fin (o01.trans o2)
    refine ⟨_, rfl, a, _, _, _, rfl, rfl, SqT.of ha2, at0, rfl, _, rfl, iteFd (by decide) ?_⟩
    refine ⟨_, rfl, a, _, _, _, rfl, rfl, SqT.of ha2, at0, rfl, _, rfl, iteFd (by decide) ?_⟩
    refine ⟨_, rfl, a, _, _, _, rfl, rfl, SqT.of ha2, at0, rfl, _, rfl, iteFd (by decide) ?_⟩
    refine ⟨_, rfl, _, rfl, _, _, rfl, rfl, .inr ⟨_, rfl, ?_⟩⟩
    by_cases y : e1.val c < e2.val c
    · rw [E.val, if_pos y] at q2
      rw [decide_eq_true y]
      exact q2
    · rw [E.val, if_neg y] at q2
      rw [decide_eq_false y]
      exact q2
  | ite e0 e1 e2 =>
    obtain ⟨a, _, v0, v1, v2, rfl, ha, p0, p3, p1, p2⟩ := IsT.inv4 he
    obtain rfl := p0.of_str
    have z1 := E.size_pos e1
    have z2 := E.size_pos e2
    simp only [E.depth, E.size] at hd hz
    have z0 := E.size_pos e0
    have z3 := E.looks_le c e0
    refine ⟨_, rfl, a, _, _, _, rfl, rfl, SqT.of ha, at0, rfl, _, rfl, iteFd (by decide) ?_⟩
    refine ⟨_, rfl, a, _, _, _, rfl, rfl, SqT.of ha, at0, rfl, _, rfl, iteFd (by decide) ?_⟩
    refine ⟨_, rfl, a, _, _, _, rfl, rfl, SqT.of ha, at0, sz, fun l0 hl0 => ⟨l0, _, rfl, .inl (SqL.of upd_same), rfl, rfl, _, rfl, iteFb (by decide) ?_⟩⟩
    have o0 : Oth [l] H (upd H l0 (.lst [.str "cell", .str "prop", .str "store"])) := Oth.new hl0
    have ha0 := o0.tup _ _ ha
    have hsa0 := o0.keep sa _ (by simp [hne]) hsa
    have hL0 : (upd H l0 (.lst [.str "cell", .str "prop", .str "store"])) l = some (.lst L) := by rw [upd_ne (ne_of_none hL hl0)]; exact hL
    refine ⟨_, rfl, a, _, _, _, rfl, rfl, SqT.of ha0, at1, _, rfl, _, rfl, e0, c, _, sa, ac, ap, as, l, L, rfl, p3.oth o0, hsa0, o0.tup _ _ hac, o0.tup _ _ hap, o0.tup _ _ has, hne, hL0, by omega, by omega, fun H1 hL1 o1 => ?_⟩
    have o01 := o0.trans o1
    have ha1 := o1.tup _ _ ha0
    have hsa1 := o1.keep sa _ (by simp [hne]) hsa0
    refine ⟨_, rfl, a, _, _, _, rfl, rfl, SqT.of ha1, at0, rfl, _, rfl, iteTd rfl ?_⟩
    by_cases y : e0.val c = 0
    · have hk : (if (!decide (V.int (e0.val c) = V.int 0)) = true then (1 : Int) else 0) = 0 := by
        rw [decide_eq_true (by rw [y] : V.int (e0.val c) = V.int 0)]; rfl
      refine ⟨_, rfl, sz, fun l2 hl2 => ⟨_, rfl, rfl, .inr ⟨_, rfl, l2, _, _, _, rfl, rfl, SqL.of upd_same, (by rw [hk]; exact at0), ?_⟩⟩⟩
      have o2 : Oth [l] H1 (upd H1 l2 (.lst [.int 3, .int 2])) := Oth.new hl2
      have hL2 : (upd H1 l2 (.lst [.int 3, .int 2])) l = some (.lst (L ++ (e0.looks c).map V.int)) := by rw [upd_ne (ne_of_none hL1 hl2)]; exact hL1
      have o02 := o01.trans o2
      refine ⟨a, _, _, _, rfl, rfl, SqT.of (o2.tup _ _ ha1), at3, _, rfl, _, rfl, e2, c, _, sa, ac, ap, as, l, _, rfl, p2.oth o02, o2.keep sa _ (by simp [hne]) hsa1, o02.tup _ _ hac, o02.tup _ _ hap, o02.tup _ _ has, hne, hL2, by omega, by simp only [List.length_append, List.length_map]; omega, fun H3 hL3 o3 => ?_⟩
      have q2 := q H3 (by rw [hL3, E.looks, if_pos y, List.map_append, List.append_assoc]) (o02.trans o3)
      rw [E.val, if_pos y] at q2
      exact q2
    · have hk : (if (!decide (V.int (e0.val c) = V.int 0)) = true then (1 : Int) else 0) = 1 := by
        rw [decide_eq_false (fun z => y (V.int.inj z) : ¬ V.int (e0.val c) = V.int 0)]; rfl
      refine ⟨_, rfl, sz, fun l2 hl2 => ⟨_, rfl, rfl, .inr ⟨_, rfl, l2, _, _, _, rfl, rfl, SqL.of upd_same, (by rw [hk]; exact at1), ?_⟩⟩⟩
      have o2 : Oth [l] H1 (upd H1 l2 (.lst [.int 3, .int 2])) := Oth.new hl2
      have hL2 : (upd H1 l2 (.lst [.int 3, .int 2])) l = some (.lst (L ++ (e0.looks c).map V.int)) := by rw [upd_ne (ne_of_none hL1 hl2)]; exact hL1
      have o02 := o01.trans o2
      refine ⟨a, _, _, _, rfl, rfl, SqT.of (o2.tup _ _ ha1), at2, _, rfl, _, rfl, e1, c, _, sa, ac, ap, as, l, _, rfl, p1.oth o02, o2.keep sa _ (by simp [hne]) hsa1, o02.tup _ _ hac, o02.tup _ _ hap, o02.tup _ _ has, hne, hL2, by omega, by simp only [List.length_append, List.length_map]; omega, fun H3 hL3 o3 => ?_⟩
      have q2 := q H3 (by rw [hL3, E.looks, if_neg y, List.map_append, List.append_assoc]) (o02.trans o3)
      rw [E.val, if_neg y] at q2
      exact q2
end
end Pw
namespace Pw
open PySem PySem.Spec PyProof.Rows L2
abbrev sLaw : Stmt := topS 12
theorem scLaw : FnScope ["script", "box", "rows", "k", "many", "index", "e", "looked", "due", "expected", "j"] ["script"] (defScope sLaw) := ⟨rfl, rfl, rfl, by decide +kernel, rfl, by decide +kernel, by decide +kernel⟩
section
variable {P : Program} {w : World} {K : PySem.W.Frag} {mg : Str → Option Value} {base : Heap}
theorem ok_law {f fD fR fW fV fS fX : Addr} {fd dD dR dW dV dS dX : FuncData} {k : Nat} (F : Fun K "law" "law" sLaw f fd)
    (GD : FnOk P w K mg base CX0 k fD dD ["script", "first", "last"] (spDigits K)) (bD : Binds K dD ["script", "first", "last"] []) (kD : PySem.W.keepIn K (.ref fD) = true) (mD : mg "_law_digits" = some (.ref fD))
    (GR : FnOk P w K mg base CX0 k fR dR ["box", "many"] spDraw) (bR : Binds K dR ["box", "many"] []) (kR : PySem.W.keepIn K (.ref fR) = true) (mR : mg "_law_draw" = some (.ref fR))
    (GW : FnOk P w K mg base CX0 k fW dW ["box", "depth"] (spWide 4)) (bW : Binds K dW ["box", "depth"] []) (kW : PySem.W.keepIn K (.ref fW) = true) (mW : mg "_law_wide" = some (.ref fW))
    (GV : FnOk P w K mg base CX0 k fV dV ["e", "scope", "looked"] (spLawValue 4)) (bV : Binds K dV ["e", "scope", "looked"] []) (kV : PySem.W.keepIn K (.ref fV) = true) (mV : mg "_law_value" = some (.ref fV))
    (GS : FnOk P w K mg base CX0 k fS dS ["actual", "expected"] (spSame 1)) (bS : Binds K dS ["actual", "expected"] []) (kS : PySem.W.keepIn K (.ref fS) = true) (mS : mg "_law_same" = some (.ref fS))
    (GX : FnOk P w K mg base CX0 k fX dX ["expression", "scope", "looked"] (spValue 4)) (bX : Binds K dX ["expression", "scope", "looked"] []) (kX : PySem.W.keepIn K (.ref fX) = true) (mX : mg "value" = some (.ref fX))
    (m_range : mg "range" = none) (m_tuple : mg "tuple" = none) : FnOk P w K mg base CX0 (k + 1) f fd ["script"] (spLaw K) := by
  refine F.ok scLaw (fun vs H Q E h => ?_) (fun cdv A outer s H vs Q E' hr h => ?_)
  · obtain ⟨a, ns, rfl, _⟩ := h
    rfl
  obtain ⟨a, ns, rfl, hS, h63, q⟩ := h
  have nd := scLaw.nd
  refine ⟨_, (pss_cons (ps_set (i := 1) nd rfl (.inr rfl) (pe_lst (pa_cons (pe_call GD hr rfl mD kD bD .nil pass0 (pa_cons (pv 0) (pa_cons pe_int (pa_cons pe_int pa_nil)))) (pa_cons pe_int pa_nil))))
  (pss_cons (ps_set (i := 2) nd rfl (.inl rfl) (pe_lst pa_nil))
  (pss_cons (ps_for PassesOwn.never rfl (pi_range1 (by rfl) m_range (pa_cons pe_int pa_nil)) (pg_name (i := 3) nd rfl (.inl rfl))
  (pss_cons (ps_set (i := 4) nd rfl (.inl rfl) (pe_call GR hr rfl mR kR bR .nil pass0 (pa_cons (pv 1) (pa_cons pe_int pa_nil))))
  (pss_one (ps_expr (pe_bm PySem.F.plainAttrs_list PySem.F.slot_list_append PySem.F.type_list_append mt_append (pv 2) (pa_cons (pe_tupleOf (by rfl) m_tuple (pe_lc (own := [("j", 10)]) (g := gName 10) (tt := tYes) rfl nd (pi_range1 (by rfl) m_range (pa_cons (pv 4) pa_nil)) (blkOk_by (N := ["script", "box", "rows", "k", "many", "index", "e", "looked", "due", "expected", "j"]) (sc := defScope sLaw) (by decide +kernel)) (fun _ _ _ _ _ => (pg_name (i := 10) nd rfl (.inl rfl))) (fun _ _ _ _ _ => pts_nil) (fun _ _ _ _ _ => (pe_ix (r := rIxL K) ix_list (pe_lst (pa_cons (pe_call GR hr rfl mR kR bR .nil pass0 (pa_cons (pv 1) (pa_cons pe_int pa_nil))) (pa_cons (pe_call GR hr rfl mR kR bR .nil pass0 (pa_cons (pv 1) (pa_cons pe_int pa_nil))) pa_nil))) (pe_call GR hr rfl mR kR bR .nil pass0 (pa_cons (pv 1) (pa_cons pe_int pa_nil))) (fun _ _ => rfl))))) pa_nil))))))
  (pss_cons (ps_set (i := 5) nd rfl (.inl rfl) (pe_call GR hr rfl mR kR bR .nil pass0 (pa_cons (pv 1) (pa_cons pe_int pa_nil))))
  (pss_cons (ps_for PassesOwn.never rfl (pi_range1 (by rfl) m_range (pa_cons pe_int pa_nil)) (pg_name (i := 3) nd rfl (.inl rfl))
  (pss_cons (ps_set (i := 6) nd rfl (.inl rfl) (pe_call GW hr rfl mW kW bW .nil pass0 (pa_cons (pv 1) (pa_cons pe_int pa_nil))))
  (pss_cons (ps_set (i := 7) nd rfl (.inl rfl) (pe_lst (pa_cons pe_int pa_nil)))
  (pss_cons (ps_set (i := 8) nd rfl (.inl rfl) (pe_lst (pa_cons pe_int pa_nil)))
  (pss_cons (ps_set (i := 9) nd rfl (.inl rfl) (pe_call GV hr rfl mV kV bV .nil pass0 (pa_cons (pv 6) (pa_cons (pe_lst (pa_cons (pe_ix ix_list (pv 2) pe_int (fun _ _ => rfl)) (pa_cons (pe_ix ix_list (pv 2) pe_int (fun _ _ => rfl)) (pa_cons (pe_ix ix_list (pv 2) pe_int (fun _ _ => rfl)) (pa_cons (pv 5) pa_nil))))) (pa_cons (pv 8) pa_nil)))))
  (pss_cons (ps_if (pt_not (pt_val (pe_call GS hr rfl mS kS bS .nil pass0 (pa_cons (pe_call GX hr rfl mX kX bX .nil pass0 (pa_cons (pv 6) (pa_cons (pe_tup (pa_cons pe_str (pa_cons (pe_ix ix_list (pv 2) pe_int (fun _ _ => rfl)) (pa_cons (pe_ix ix_list (pv 2) pe_int (fun _ _ => rfl)) (pa_cons (pe_ix ix_list (pv 2) pe_int (fun _ _ => rfl)) (pa_cons (pv 5) pa_nil)))))) (pa_cons (pv 7) pa_nil)))) (pa_cons (pv 9) pa_nil)))))
  (pss_one (ps_ret pe_bl))
  pss_nil)
  (pss_one (ps_if (pt_cmpR (op_neD (Room.units hr)) (pv 7) (pv 8) (nomark _))
  (pss_one (ps_ret pe_bl))
  pss_nil))))))))
  (pss_one (ps_ret pe_bl))))))), ?_⟩
  refine ⟨_, rfl, a, ns, 0, 63, rfl, hS, by omega, by omega, fun p H1 ds hp o1 hd => ⟨sz, fun b hb => ?_⟩⟩
  refine ⟨sz, fun r hr' => ?_⟩
  have nbp : p ≠ b := ne_of_none hd hb
  have bx00 : Box (upd H1 b (.lst [.ref p, .int 0])) b p [] := ⟨ds, 0, upd_same, by rw [upd_ne nbp]; exact hd⟩
  have bx0 := bx00.new (o := .lst []) hr'
  have nbr : b ≠ r := ne_of_none (upd_same : (upd H1 b (.lst [.ref p, .int 0])) b = _) hr'
  have npr : p ≠ r := bx00.nd hr'
  refine ⟨3, rfl, by decide, by decide, for_range (lo := 0) (n := 3)
    (fun i σ H2 => ∃ (x3 x4 : Option V) (vs : List V) (cs : List (List Int)), σ = [some (.ref a), some (.ref b), some (.ref r), x3, x4, none, none, none, none, none, none] ∧ Box H2 b p [] ∧ H2 r = some (.lst vs) ∧ vs.length = i ∧ Paired (RowT H2) vs cs)
    ⟨none, none, [], [], rfl, bx0, upd_same, rfl, .nil⟩ (fun i σ H2 hi hW => ?_) (fun σ H2 hW => ?_)⟩
  · obtain ⟨x3, x4, vs, cs, rfl, bx, hr2, hl, hp2⟩ := hW
    refine ⟨_, rfl, b, p, 4, [], rfl, by decide, bx, fun m H3 m0 m4 bx3 o3 => ?_⟩
    have hr3 := o3.keep r _ (by simp [nbr.symm]) hr2
    refine ⟨_, rfl, .inl ⟨rfl, _, SqL.of hr3⟩, _, rfl, m, rfl, by omega, by omega, fun D hD => lc_range (lo := 0) (n := m.toNat)
      (fun j H4 => Box H4 b p [] ∧ ∃ cs : List Int, H4 D = some (.lst (cs.map V.int)) ∧ cs.length = j ∧ Oth [b, D] H3 H4) ⟨bx3.new hD, [], upd_same, rfl, Oth.new hD⟩ (fun j H4 hj hW => ?_) (fun H4 hW => ?_)⟩
    · obtain ⟨bx4, xs, hD4, hxl, o4⟩ := hW
      have nbD : b ≠ D := bx3.nb hD
      have npD : p ≠ D := bx3.nd hD
      refine ⟨rfl, ?_⟩
      refine ⟨_, rfl, b, p, 4, [], rfl, by decide, bx4, fun r1 H5 l1 u1 bx5 o5 => ?_⟩
      refine ⟨_, rfl, b, p, 1000, [], rfl, by decide, bx5, fun r2 H6 l2 u2 bx6 o6 => ⟨sz, fun l hl' => ?_⟩⟩
      refine ⟨_, rfl, b, p, 2, [], rfl, by decide, bx6.new hl', fun r3 H7 l3 u3 bx7 o7 => ?_⟩
      have nbl : l ≠ b := (bx6.nb hl').symm
      have hl7 := o7.keep l _ (by simp [nbl]) upd_same
      have o47 : Oth [b] H4 H7 := o5.trans (o6.trans ((Oth.new hl').trans o7))
      have hD7 := o47.keep D _ (by simp [nbD.symm]) hD4
      have hs : (xs.map V.int).length < sizeLine := by rw [List.length_map]; exact small1000 (by omega)
      have fin : ∀ x : Int, ∃ acc, H7 D = some (.lst acc) ∧ acc.length < sizeLine ∧ Box (upd H7 D (.lst (acc ++ [V.int x]))) b p [] ∧ ∃ cs : List Int, (upd H7 D (.lst (acc ++ [V.int x]))) D = some (.lst (cs.map V.int)) ∧ cs.length = j + 1 ∧ Oth [b, D] H3 (upd H7 D (.lst (acc ++ [V.int x]))) := fun x => by
        refine ⟨_, hD7, hs, bx7.put nbD npD, xs ++ [x], by rw [upd_same, List.map_append]; rfl, by rw [List.length_append, hxl]; rfl, (o4.trans (o47.mono (by simp))).trans (Oth.put (by simp) hD7)⟩
      have cs3 : r3 = 0 ∨ r3 = 1 := by omega
      rcases cs3 with rfl | rfl
      · exact ⟨l, _, _, _, rfl, rfl, SqL.of hl7, at0, fin r1⟩
      · exact ⟨l, _, _, _, rfl, rfl, SqL.of hl7, at1, fin r2⟩
    · obtain ⟨bx4, xs, hD4, hxl, o4⟩ := hW
      refine .inl ⟨D, _, rfl, SqL.of hD4, fun t ht => ?_⟩
      have nrD : r ≠ D := ne_of_none hr3 hD
      have hr4 := o4.keep r _ (by simp [nbr.symm, nrD]) hr3
      have on : Oth [b] H4 (upd H4 t (.tup (xs.map V.int))) := Oth.new ht
      have hr5 := on.keep r _ (by simp [nbr.symm]) hr4
      have hs : vs.length < sizeLine := small1000 (by omega)
      refine ⟨r, _, _, rfl, rfl, hr5, hs, ?_⟩
      have op : Oth [r] (upd H4 t (.tup (xs.map V.int))) (upd (upd H4 t (.tup (xs.map V.int))) r (.lst (vs ++ [.ref t]))) := Oth.put (by simp) hr5
      refine ⟨_, _, vs ++ [.ref t], cs ++ [xs], rfl, ?_, upd_same, by rw [List.length_append, hl]; rfl, Paired.appendP (rows_oth op (rows_oth on (rows_oth o4 (rows_oth o3 hp2)))) (.cons ⟨t, rfl, op.tup _ _ upd_same⟩ .nil)⟩
      exact (bx4.new ht).put nbr npr
  · obtain ⟨x3, x4, vs, cs, rfl, bx, hr2, hl, hp2⟩ := hW
    obtain ⟨q0, q1, q2, c0, c1, c2, rfl, h0, h1, h2⟩ := rows3 hp2 hl
    refine ⟨_, rfl, b, p, 6, [], rfl, by decide, bx, fun ix H3 ix0 ix1 bx3 o3 => ?_⟩
    have hr3 := o3.keep r _ (by simp [nbr.symm]) hr2
    refine ⟨6, rfl, by decide, by decide, for_range (lo := 0) (n := 6)
      (fun i σ H4 => ∃ (x3 x6 x7 x8 x9 : Option V), σ = [some (.ref a), some (.ref b), some (.ref r), x3, x4, some (.int ix), x6, x7, x8, x9, none] ∧ Box H4 b p [] ∧ H4 r = some (.lst [.ref q0, .ref q1, .ref q2]) ∧ H4 q0 = some (.tup (c0.map V.int)) ∧ H4 q1 = some (.tup (c1.map V.int)) ∧ H4 q2 = some (.tup (c2.map V.int)))
      ⟨x3, none, none, none, none, rfl, bx3, hr3, o3.tup _ _ h0, o3.tup _ _ h1, o3.tup _ _ h2⟩ (fun i σ H4 hi hW => ?_) (fun σ H4 hW => q _)⟩
    obtain ⟨x3, x6, x7, x8, x9, rfl, bx4, hr4, g0, g1, g2⟩ := hW
    refine ⟨_, rfl, b, p, 3, rfl, by decide, bx4, fun e v H5 de ze te bx5 o5 => ⟨sz, fun l hl' => ⟨sz, fun u hu => ?_⟩⟩⟩
    have ze' : e.size ≤ 27 := ze
    have hr5 := o5.keep r _ (by simp [nbr.symm]) hr4
    have on1 : Oth [b] H5 (upd H5 l (.lst [.int 7])) := Oth.new hl'
    have on2 : Oth [b] (upd H5 l (.lst [.int 7])) (upd (upd H5 l (.lst [.int 7])) u (.lst [.int 7])) := Oth.new hu
    have o52 := on1.trans on2
    have hl6 : (upd (upd H5 l (.lst [.int 7])) u (.lst [.int 7])) l = some (.lst [.int 7]) := by
      rw [upd_ne (ne_of_none (upd_same : (upd H5 l (.lst [.int 7])) l = _) hu)]; exact upd_same
    have nlu : l ≠ u := ne_of_none (upd_same : (upd H5 l (.lst [.int 7])) l = _) hu
    have hr6 := o52.keep r _ (by simp [nbr.symm]) hr5
    have f0 := o52.tup _ _ (o5.tup _ _ g0)
    have f1 := o52.tup _ _ (o5.tup _ _ g1)
    have f2 := o52.tup _ _ (o5.tup _ _ g2)
    have nru : r ≠ u := ne_of_none (on1.keep r _ (by simp [nbr.symm]) hr5) hu
    have nrl : r ≠ l := ne_of_none hr5 hl'
    have bx6 := (bx5.new (o := .lst [.int 7]) hl').new (o := .lst [.int 7]) hu
    have nbu := (bx5.new (o := .lst [.int 7]) hl').nb hu
    have nbl := bx5.nb hl'
    have npu := (bx5.new (o := .lst [.int 7]) hl').nd hu
    have npl := bx5.nd hl'
    refine ⟨_, rfl, _, rfl, r, _, _, _, rfl, rfl, SqL.of hr6, at0, _, rfl, r, _, _, _, rfl, rfl, SqL.of hr6, at1, _, rfl, r, _, _, _, rfl, rfl, SqL.of hr6, at2, _, rfl, sz, fun s hs => ?_⟩
    have on3 : Oth [b] (upd (upd H5 l (.lst [.int 7])) u (.lst [.int 7])) (upd (upd (upd H5 l (.lst [.int 7])) u (.lst [.int 7])) s (.lst [.ref q0, .ref q1, .ref q2, .int ix])) := Oth.new hs
    have nsu : s ≠ u := (ne_of_none (upd_same : (upd (upd H5 l (.lst [.int 7])) u (.lst [.int 7])) u = _) hs).symm
    have hu7 := on3.keep u _ (by simp [nbu.symm]) upd_same
    have hl7 := on3.keep l _ (by simp [nbl.symm]) hl6
    have hr7 := on3.keep r _ (by simp [nbr.symm]) hr6
    refine ⟨_, rfl, e, ⟨c0, c1, c2, ix⟩, v, s, q0, q1, q2, u, [.int 7], rfl, (te.oth o52).oth on3, upd_same, on3.tup _ _ f0, on3.tup _ _ f1, on3.tup _ _ f2, nsu, hu7, by omega, by simp only [List.length_singleton]; omega, fun H8 hu8 o8 => ?_⟩
    have hl8 := o8.keep l _ (by simp [nlu]) hl7
    have hr8 := o8.keep r _ (by simp [nru]) hr7
    have bx8 := (bx6.new (o := .lst [.ref q0, .ref q1, .ref q2, .int ix]) hs).oth o8 (by simp [nbu]) (by simp [npu])
    refine ⟨_, rfl, _, rfl, r, _, _, _, rfl, rfl, SqL.of hr8, at0, _, rfl, r, _, _, _, rfl, rfl, SqL.of hr8, at1, _, rfl, r, _, _, _, rfl, rfl, SqL.of hr8, at2, _, rfl, sz, fun t ht => ?_⟩
    have on4 : Oth [b] H8 (upd H8 t (.tup [.str "scope", .ref q0, .ref q1, .ref q2, .int ix])) := Oth.new ht
    have k0 := on4.tup _ _ (o8.tup _ _ (on3.tup _ _ f0))
    have k1 := on4.tup _ _ (o8.tup _ _ (on3.tup _ _ f1))
    have k2 := on4.tup _ _ (o8.tup _ _ (on3.tup _ _ f2))
    have hl9 := on4.keep l _ (by simp [nbl.symm]) hl8
    have hu9 := on4.keep u _ (by simp [nbu.symm]) hu8
    have hr9 := on4.keep r _ (by simp [nbr.symm]) hr8
    have hc : IsT (upd H8 t (.tup [.str "scope", .ref q0, .ref q1, .ref q2, .int ix])) (Sc.toT ⟨c0, c1, c2, ix⟩) (.ref t) :=
      IsT.mk5 upd_same (.str _) (.mk k0 (int_paired _)) (.mk k1 (int_paired _)) (.mk k2 (int_paired _)) (.int _)
    refine ⟨_, rfl, e, ⟨c0, c1, c2, ix⟩, v, _, l, [.int 7], rfl, (((te.oth o52).oth on3).oth o8).oth on4, hc, hl9, by omega, by simp only [List.length_singleton]; omega, fun H10 hl10 o10 => ?_⟩
    refine ⟨_, rfl, .int _, _, _, rfl, .int _, .int _, .int _ _, _, rfl, iteF ?_⟩
    have hu10 := o10.keep u _ (by simp [nlu.symm]) hu9
    have hr10 := o10.keep r _ (by simp [nrl]) hr9
    have ej : ([V.int 7] ++ (e.looks ⟨c0, c1, c2, ix⟩).map V.int) = ((7 :: e.looks ⟨c0, c1, c2, ix⟩).map V.int) := rfl
    rw [ej] at hl10 hu10
    refine ⟨_, rfl, _, rfl, _, _, .lst (SqL.of hl10) (dp_ints _), .lst (SqL.of hu10) (dp_ints _), shaped_ints _, shaped_ints _, _, rfl, ?_⟩
    rw [eqv_ints]
    refine iteF ⟨_, _, _, _, _, rfl, ?_, hr10, o10.tup _ _ k0, o10.tup _ _ k1, o10.tup _ _ k2⟩
    exact (bx8.new ht).oth o10 (by simp [nbl]) (by simp [npl])
end
end Pw
namespace Pw
open PySem PySem.Spec PyProof.Rows L2
theorem fn_none {P : Program} {w : World} {K : PySem.W.Frag} {mg : Str → Option Value} {base : Heap} {f : Addr} {fd : FuncData} {ps : List Str} {k : Nat} {sp : Sp} (no : ∀ vs H Q E, ¬ sp vs H Q E) : FnOk P w K mg base CX0 k f fd ps sp :=
  ⟨fun vs H Q E h => absurd h (no vs H Q E), fun A outer s H args us vs Q E _ _ _ _ h => absurd h (no vs H Q E)⟩
section
variable {P : Program} {w : World} {K : PySem.W.Frag} {mg : Str → Option Value} {base : Heap}
theorem all_value {f g t : Addr} {fd gd td : FuncData} {tv : Tok} (F : Fun K "value" "value" sValue f fd) (bS : Binds K fd ["expression", "scope", "looked"] []) (kS : PySem.W.keepIn K (.ref f) = true) (mS : mg "value" = some (.ref f))
    (G : FnOk P w K mg base CX0 2 g gd ["row", "at"] (spItem K)) (bG : Binds K gd ["row", "at"] []) (kG : PySem.W.keepIn K (.ref g) = true) (mG : mg "_item" = some (.ref g))
    (T : FnOk P w K mg base CX0 1 t td ["row", "at"] (spThere K)) (bT : Binds K td ["row", "at"] []) (kT : PySem.W.keepIn K (.ref t) = true) (mT : mg "_is_there" = some (.ref t)) (mV : mg "VALUES" = some (.int 1000 tv)) :
    ∀ n : Nat, FnOk P w K mg base CX0 (n + 2) f fd ["expression", "scope", "looked"] (spValue n)
  | 0 => fn_none fun vs H Q E h => by obtain ⟨e, c, ve, vc, l, L, _, _, _, _, h, _⟩ := h; omega
  | n + 1 => ok_value (k := n + 2) F (all_value F bS kS mS G bG kG mG T bT kT mT mV n) bS kS mS (G.mono (by omega)) bG kG mG (T.mono (by omega)) bT kT mT mV
theorem all_same {f : Addr} {fd : FuncData} (F : Fun K "_law_same" "_law_same" sSame f fd) (bS : Binds K fd ["actual", "expected"] []) (kS : PySem.W.keepIn K (.ref f) = true) (mS : mg "_law_same" = some (.ref f))
    (m_isinstance : mg "isinstance" = none) (m_tuple : mg "tuple" = none) (m_len : mg "len" = none) (m_range : mg "range" = none) (m_bool : mg "bool" = none) (m_int : mg "int" = none) (m_str : mg "str" = none) :
    ∀ n : Nat, FnOk P w K mg base CX0 n f fd ["actual", "expected"] (spSame n)
  | 0 => fn_none fun vs H Q E h => by obtain ⟨t, v, u, _, _, _, h, _⟩ := h; cases h
  | n + 1 => ok_same F (all_same F bS kS mS m_isinstance m_tuple m_len m_range m_bool m_int m_str n) bS kS mS m_isinstance m_tuple m_len m_range m_bool m_int m_str
theorem all_wide {f g : Addr} {fd gd : FuncData} (F : Fun K "_law_wide" "_law_wide" sWide f fd) (bW : Binds K fd ["box", "depth"] []) (kW : PySem.W.keepIn K (.ref f) = true) (mW : mg "_law_wide" = some (.ref f))
    (GR : FnOk P w K mg base CX0 1 g gd ["box", "many"] spDraw) (bR : Binds K gd ["box", "many"] []) (kR : PySem.W.keepIn K (.ref g) = true) (mR : mg "_law_draw" = some (.ref g)) (m_int : mg "int" = none) :
    ∀ n : Nat, FnOk P w K mg base CX0 (n + 1) f fd ["box", "depth"] (spWide n)
  | 0 => fn_none fun vs H Q E h => by obtain ⟨b, dg, d, _, h, _⟩ := h; omega
  | n + 1 => ok_wide (k := n + 1) F (all_wide F bW kW mW GR bR kR mR m_int n) bW kW mW (GR.mono (by omega)) bR kR mR m_int
theorem all_lawvalue {f : Addr} {fd : FuncData} (F : Fun K "_law_value" "_law_value" sLawValue f fd) (bV : Binds K fd ["e", "scope", "looked"] []) (kV : PySem.W.keepIn K (.ref f) = true) (mV : mg "_law_value" = some (.ref f)) (m_int : mg "int" = none) (m_len : mg "len" = none) :
    ∀ n : Nat, FnOk P w K mg base CX0 n f fd ["e", "scope", "looked"] (spLawValue n)
  | 0 => fn_none fun vs H Q E h => by obtain ⟨e, c, ve, s, ac, ap, as, l, L, _, _, _, _, _, _, _, _, h, _⟩ := h; omega
  | n + 1 => ok_lawvalue F (all_lawvalue F bV kV mV m_int m_len n) bV kV mV m_int m_len
end
theorem all_mk {l : PySem.W.OpenLaw} {w : World} {K : PySem.W.Frag} {h : Heap} {mg : Str → Option Value} {fa fX fT fI fC fD fR fS fW fV fL : Addr} (X : K.In h) (G : h.Ns mainGlobals mg) (hfa : mg "law" = some (.ref fa))
    {odX anX odT anT odI anI odC anC odD anD odR anR odS anS odW anW odV anV odL anL : Option Addr} {slX slT slI slC slD slR slS slW slV slL : Array (Option Value)} {ocX kVX dcX pmX cdX ctX ocT kVT dcT pmT cdT ctT ocI kVI dcI pmI cdI ctI ocC kVC dcC pmC cdC ctC ocD kVD dcD pmD cdD ctD ocR kVR dcR pmR cdR ctR ocS kVS dcS pmS cdS ctS ocW kVW dcW pmW cdW ctW ocV kVV dcV pmV cdV ctV ocL kVL dcL pmL cdL ctL : Value} {tv : Tok}
    (aX : PySem.W.nsIn K mainGlobals "value" = some (some (.ref fX))) (lX : K.lookup fX = some ⟨ocX, odX, .func (PySem.W.fnOf "value" "value" (defArgs sValue) (defBody sValue) (defScope sValue) .none kVX dcX pmX anX cdX ctX), slX⟩) (cX : PySem.W.codeIn K cdX "value" = true) (kX : PySem.W.keepIn K (.ref fX) = true)
    (aT : PySem.W.nsIn K mainGlobals "_is_there" = some (some (.ref fT))) (lT : K.lookup fT = some ⟨ocT, odT, .func (PySem.W.fnOf "_is_there" "_is_there" (defArgs sThere) (defBody sThere) (defScope sThere) .none kVT dcT pmT anT cdT ctT), slT⟩) (cT : PySem.W.codeIn K cdT "_is_there" = true) (kT : PySem.W.keepIn K (.ref fT) = true)
    (aI : PySem.W.nsIn K mainGlobals "_item" = some (some (.ref fI))) (lI : K.lookup fI = some ⟨ocI, odI, .func (PySem.W.fnOf "_item" "_item" (defArgs sItem) (defBody sItem) (defScope sItem) .none kVI dcI pmI anI cdI ctI), slI⟩) (cI : PySem.W.codeIn K cdI "_item" = true) (kI : PySem.W.keepIn K (.ref fI) = true)
    (aC : PySem.W.nsIn K mainGlobals "_law_cell" = some (some (.ref fC))) (lC : K.lookup fC = some ⟨ocC, odC, .func (PySem.W.fnOf "_law_cell" "_law_cell" (defArgs sCell) (defBody sCell) (defScope sCell) .none kVC dcC pmC anC cdC ctC), slC⟩) (cC : PySem.W.codeIn K cdC "_law_cell" = true) (kC : PySem.W.keepIn K (.ref fC) = true)
    (aD : PySem.W.nsIn K mainGlobals "_law_digits" = some (some (.ref fD))) (lD : K.lookup fD = some ⟨ocD, odD, .func (PySem.W.fnOf "_law_digits" "_law_digits" (defArgs sDigits) (defBody sDigits) (defScope sDigits) .none kVD dcD pmD anD cdD ctD), slD⟩) (cD : PySem.W.codeIn K cdD "_law_digits" = true) (kD : PySem.W.keepIn K (.ref fD) = true)
    (aR : PySem.W.nsIn K mainGlobals "_law_draw" = some (some (.ref fR))) (lR : K.lookup fR = some ⟨ocR, odR, .func (PySem.W.fnOf "_law_draw" "_law_draw" (defArgs sDraw) (defBody sDraw) (defScope sDraw) .none kVR dcR pmR anR cdR ctR), slR⟩) (cR : PySem.W.codeIn K cdR "_law_draw" = true) (kR : PySem.W.keepIn K (.ref fR) = true)
    (aS : PySem.W.nsIn K mainGlobals "_law_same" = some (some (.ref fS))) (lS : K.lookup fS = some ⟨ocS, odS, .func (PySem.W.fnOf "_law_same" "_law_same" (defArgs sSame) (defBody sSame) (defScope sSame) .none kVS dcS pmS anS cdS ctS), slS⟩) (cS : PySem.W.codeIn K cdS "_law_same" = true) (kS : PySem.W.keepIn K (.ref fS) = true)
    (aW : PySem.W.nsIn K mainGlobals "_law_wide" = some (some (.ref fW))) (lW : K.lookup fW = some ⟨ocW, odW, .func (PySem.W.fnOf "_law_wide" "_law_wide" (defArgs sWide) (defBody sWide) (defScope sWide) .none kVW dcW pmW anW cdW ctW), slW⟩) (cW : PySem.W.codeIn K cdW "_law_wide" = true) (kW : PySem.W.keepIn K (.ref fW) = true)
    (aV : PySem.W.nsIn K mainGlobals "_law_value" = some (some (.ref fV))) (lV : K.lookup fV = some ⟨ocV, odV, .func (PySem.W.fnOf "_law_value" "_law_value" (defArgs sLawValue) (defBody sLawValue) (defScope sLawValue) .none kVV dcV pmV anV cdV ctV), slV⟩) (cV : PySem.W.codeIn K cdV "_law_value" = true) (kV : PySem.W.keepIn K (.ref fV) = true)
    (aL : PySem.W.nsIn K mainGlobals "law" = some (some (.ref fL))) (lL : K.lookup fL = some ⟨ocL, odL, .func (PySem.W.fnOf "law" "law" (defArgs sLaw) (defBody sLaw) (defScope sLaw) .none kVL dcL pmL anL cdL ctL), slL⟩) (cL : PySem.W.codeIn K cdL "law" = true) (kL : PySem.W.keepIn K (.ref fL) = true)
    (z_len : PySem.W.nsIn K mainGlobals "len" = some none)
    (z_range : PySem.W.nsIn K mainGlobals "range" = some none)
    (z_int : PySem.W.nsIn K mainGlobals "int" = some none)
    (z_isinstance : PySem.W.nsIn K mainGlobals "isinstance" = some none)
    (z_tuple : PySem.W.nsIn K mainGlobals "tuple" = some none)
    (z_bool : PySem.W.nsIn K mainGlobals "bool" = some none)
    (z_str : PySem.W.nsIn K mainGlobals "str" = some none)
    (y_VALUES : PySem.W.nsIn K mainGlobals "VALUES" = some (some (.int 1000 tv))) :
    ∃ fd : FuncData, (∀ (s : Shared) (v : Value), BindsTo s fd ⟨[v], []⟩ [("script", v)]) ∧ ∀ base : Heap, K.In base → base.Ns mainGlobals mg → FnOk l.prog w K mg base CX0 7 fa fd ["script"] (spLaw K) := by
  have e := hfa.symm.trans (PySem.W.mg_of X G aL)
  cases e
  have FX := fun_mk (st := sValue) lX cX kX
  have mX := PySem.W.mg_of X G aX
  have bX := FX.binds (ps := ["expression", "scope", "looked"]) fun _ _ _ _ _ _ us hl => match us, hl with | [_, _, _], _ => rfl
  have FT := fun_mk (st := sThere) lT cT kT
  have mT := PySem.W.mg_of X G aT
  have bT := FT.binds (ps := ["row", "at"]) fun _ _ _ _ _ _ us hl => match us, hl with | [_, _], _ => rfl
  have FI := fun_mk (st := sItem) lI cI kI
  have mI := PySem.W.mg_of X G aI
  have bI := FI.binds (ps := ["row", "at"]) fun _ _ _ _ _ _ us hl => match us, hl with | [_, _], _ => rfl
  have FC := fun_mk (st := sCell) lC cC kC
  have mC := PySem.W.mg_of X G aC
  have bC := FC.binds (ps := ["script", "k"]) fun _ _ _ _ _ _ us hl => match us, hl with | [_, _], _ => rfl
  have FD := fun_mk (st := sDigits) lD cD kD
  have mD := PySem.W.mg_of X G aD
  have bD := FD.binds (ps := ["script", "first", "last"]) fun _ _ _ _ _ _ us hl => match us, hl with | [_, _, _], _ => rfl
  have FR := fun_mk (st := sDraw) lR cR kR
  have mR := PySem.W.mg_of X G aR
  have bR := FR.binds (ps := ["box", "many"]) fun _ _ _ _ _ _ us hl => match us, hl with | [_, _], _ => rfl
  have FS := fun_mk (st := sSame) lS cS kS
  have mS := PySem.W.mg_of X G aS
  have bS := FS.binds (ps := ["actual", "expected"]) fun _ _ _ _ _ _ us hl => match us, hl with | [_, _], _ => rfl
  have FW := fun_mk (st := sWide) lW cW kW
  have mW := PySem.W.mg_of X G aW
  have bW := FW.binds (ps := ["box", "depth"]) fun _ _ _ _ _ _ us hl => match us, hl with | [_, _], _ => rfl
  have FV := fun_mk (st := sLawValue) lV cV kV
  have mV := PySem.W.mg_of X G aV
  have bV := FV.binds (ps := ["e", "scope", "looked"]) fun _ _ _ _ _ _ us hl => match us, hl with | [_, _, _], _ => rfl
  have FL := fun_mk (st := sLaw) lL cL kL
  have mL := PySem.W.mg_of X G aL
  have m_len := PySem.W.mg_none_of X G z_len
  have m_range := PySem.W.mg_none_of X G z_range
  have m_int := PySem.W.mg_none_of X G z_int
  have m_isinstance := PySem.W.mg_none_of X G z_isinstance
  have m_tuple := PySem.W.mg_none_of X G z_tuple
  have m_bool := PySem.W.mg_none_of X G z_bool
  have m_str := PySem.W.mg_none_of X G z_str
  have c_VALUES := PySem.W.mg_of X G y_VALUES
  refine ⟨PySem.W.fnOf "law" "law" (defArgs sLaw) (defBody sLaw) (defScope sLaw) .none kVL dcL pmL anL cdL ctL, fun s v => .of_eq rfl, fun base _ _ => ?_⟩
  have gT := ok_there (P := l.prog) (w := w) (base := base) (k := 0) FT m_len
  have gI := ok_item (k := 1) FI gT bT kT mT
  have gX := all_value FX bX kX mX gI bI kI mI gT bT kT mT c_VALUES 4
  have gC := ok_cell (P := l.prog) (w := w) (base := base) (k := 0) FC m_len
  have gD := ok_digits (k := 1) FD gC bC kC mC m_range m_int
  have gR := ok_draw (P := l.prog) (w := w) (base := base) (k := 0) FR m_len m_int
  have gS := all_same (P := l.prog) (w := w) (base := base) FS bS kS mS m_isinstance m_tuple m_len m_range m_bool m_int m_str 1
  have gW := all_wide FW bW kW mW gR bR kR mR m_int 4
  have gV := all_lawvalue (P := l.prog) (w := w) (base := base) FV bV kV mV m_int m_len 4
  exact ok_law (k := 6) FL (gD.mono (by decide)) bD kD mD (gR.mono (by decide)) bR kR mR (gW.mono (by decide)) bW kW mW (gV.mono (by decide)) bV kV mV (gS.mono (by decide)) bS kS mS (gX.mono (by decide)) bX kX mX m_range m_tuple
theorem walk {l : PySem.W.OpenLaw} {q : Program} {loose : List Str} {XP : (Str → Option Value) → Heap → Prop} {YP : World → Heap → Prop} {d : DefRec} {K : Params → PySem.W.Frag} (hn : l.most = some 63) (hdf : d.params.defaults = [])
    (hY : ∀ (w : World) (h : Heap), YP w h → (K w.params).In h)
    (F : ∀ (w : World) (mg : Str → Option Value) (fa : Addr) (h : Heap), (K w.params).In h → h.Ns mainGlobals mg → mg d.name = some (.ref fa) →
      ∃ fd : FuncData, (∀ (s : Shared) (u : Value), BindsTo s fd ⟨[u], []⟩ [("script", u)]) ∧ ∀ base : Heap, (K w.params).In base → base.Ns mainGlobals mg → FnOk l.prog w (K w.params) mg base CX0 7 fa fd ["script"] (spLaw (K w.params))) :
    PySem.W.WalkO q loose XP YP l.row.toRowW d [] (fun f vs => PySem.call f vs) :=
  L2.walk_of (n := 63) (k := 7) (x := "script") (CX := fun _ => CX0) (sp := fun w => spLaw (K w.params)) hn (by decide) hdf ⟨rfl, by decide, by decide⟩ hY F (fun _ _ a ns hl _ hS => ⟨a, ns, rfl, hS, hl, fun _ => rfl⟩) fun _ _ _ _ _ z => z
end Pw
open PySem PySem.W PyProof.Rows
set_option maxRecDepth 100000 in
set_option maxHeartbeats 0 in
theorem PySem.Challenge.cw_pagewake_k05_values_of_expressions_holds : PySem.Challenge.rw_pagewake_k05_values_of_expressions.Holds := by
  w_on; o_law; k_head; (case hw => w_witness2)
  k_fill
  refine Pw.walk (l := PySem.Challenge.rw_pagewake_k05_values_of_expressions) rfl rfl (fun w h Y => PySem.W.kIn_of Y) ?F
  case F =>
    intro w mg fa h KX G hmg
    refine' Pw.all_mk KX G hmg ?qaX ?qlX ?qcX ?qkX ?qaT ?qlT ?qcT ?qkT ?qaI ?qlI ?qcI ?qkI ?qaC ?qlC ?qcC ?qkC ?qaD ?qlD ?qcD ?qkD ?qaR ?qlR ?qcR ?qkR ?qaS ?qlS ?qcS ?qkS ?qaW ?qlW ?qcW ?qkW ?qaV ?qlV ?qcV ?qkV ?qaL ?qlL ?qcL ?qkL ?qz_len ?qz_range ?qz_int ?qz_isinstance ?qz_tuple ?qz_bool ?qz_str ?qy_VALUES
    (case qaX => k_is)
    (case qlX => k_is)
    (case qcX => k_is)
    (case qkX => k_is)
    (case qaT => k_is)
    (case qlT => k_is)
    (case qcT => k_is)
    (case qkT => k_is)
    (case qaI => k_is)
    (case qlI => k_is)
    (case qcI => k_is)
    (case qkI => k_is)
    (case qaC => k_is)
    (case qlC => k_is)
    (case qcC => k_is)
    (case qkC => k_is)
    (case qaD => k_is)
    (case qlD => k_is)
    (case qcD => k_is)
    (case qkD => k_is)
    (case qaR => k_is)
    (case qlR => k_is)
    (case qcR => k_is)
    (case qkR => k_is)
    (case qaS => k_is)
    (case qlS => k_is)
    (case qcS => k_is)
    (case qkS => k_is)
    (case qaW => k_is)
    (case qlW => k_is)
    (case qcW => k_is)
    (case qkW => k_is)
    (case qaV => k_is)
    (case qlV => k_is)
    (case qcV => k_is)
    (case qkV => k_is)
    (case qaL => k_is)
    (case qlL => k_is)
    (case qcL => k_is)
    (case qkL => k_is)
    (case qz_len => k_is)
    (case qz_range => k_is)
    (case qz_int => k_is)
    (case qz_isinstance => k_is)
    (case qz_tuple => k_is)
    (case qz_bool => k_is)
    (case qz_str => k_is)
    (case qy_VALUES => k_is)
