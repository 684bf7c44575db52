import PyProof.Rows.All
import Wide.All
import OpenK.AllK
import Wide.FinOn
import HandS.Call
import PyProof.Rows.MatchSeqLen
import HandS.ForMost
import HandS.IsInst
import HandS.Conv
import HandS.TupAny
import KE.KeyNested
import KE.KDictKeyed
import HandS.Deep
import KE.GoesEnum
import PySem.Challenge.RW_pagewake_k10_rows_and_their_names
set_option Elab.async false
set_option linter.all false
set_option maxRecDepth 100000
set_option maxHeartbeats 4000000
namespace Pw
open PySem PySem.Spec PyProof.Rows L2

/-- what a pattern binds: the slot, the value -/
abbrev Bnd := List (Nat × V)
def BndOk (X : Cx) (p : Nat × V) (q : Str × Value) : Prop := X.N[p.1]? = some q.1 ∧ X.env.scope.names.lookup q.1 = some .local ∧ RelV p.2 q.2
def RelB (X : Cx) : Option Bnd → Option (List (Str × Value)) → Prop
  | none, none => True
  | some bs, some us => Paired (BndOk X) bs us
  | _, _ => False
abbrev TPat := V → Hp → (Option Bnd → Prop) → Prop
abbrev TPats := List V → Hp → (Option Bnd → Prop) → Prop
structure PPat (X : Cx) (p : Pattern) (t : TPat) : Prop where
  run : ∀ (pins : List (Addr × Obj)) (s : Shared) (σ : L2.St) (H : Hp) (v : V) (u : Value) (Q : Option Bnd → Prop), Inv X pins σ H s → RelV v u → t v H Q →
    wpAny (model X.prog X.w) X.A (matchPattern p X.env u) (fun r s' => ∃ b, Inv X pins σ H s' ∧ RelB X b r ∧ Q b) X.xe s
structure PPats (X : Cx) (ps : List Pattern) (t : TPats) : Prop where
  run : ∀ (pins : List (Addr × Obj)) (s : Shared) (σ : L2.St) (H : Hp) (vs : List V) (us : List Value) (Q : Option Bnd → Prop), Inv X pins σ H s → Vals vs us → t vs H Q →
    wpAny (model X.prog X.w) X.A (matchEach ps X.env us) (fun r s' => ∃ b, Inv X pins σ H s' ∧ RelB X b r ∧ Q b) X.xe s
theorem Paired.appendP {α β : Type} {F : α → β → Prop} : ∀ {a : List α} {b : List β} {c : List α} {d : List β}, Paired F a b → Paired F c d → Paired F (a ++ c) (b ++ d)
  | _, _, _, _, .nil, q => q
  | _, _, _, _, .cons r t, q => .cons r (Paired.appendP t q)
section
variable {X : Cx}
def tPName (i : Nat) : TPat := fun v _ Q => Q (some [(i, v)])
theorem pp_name (i : Nat) {x : Str} {pos : Pos} (hN : X.N[i]? = some x := by rfl) (hx : X.env.scope.names.lookup x = some .local := by rfl) : PPat X (.MatchAs none (some x) pos) (tPName i) := by
  refine ⟨fun pins s σ H v u Q I r h => ?_⟩
  exact wpAny_matchPattern_Capture ⟨some [(i, v)], I, (show Paired (BndOk X) [(i, v)] [(x, u)] from .cons ⟨hN, hx, r⟩ .nil), h⟩
def tPAny : TPat := fun _ _ Q => Q (some [])
theorem pp_any {pos : Pos} : PPat X (.MatchAs none none pos) tPAny := by
  refine ⟨fun pins s σ H v u Q I r h => ?_⟩
  exact wpAny_matchPattern_Capture ⟨some [], I, (show Paired (BndOk X) [] [] from .nil), h⟩
/-- a written text -/
def tPStr (x : Str) : TPat := fun v _ Q => ∃ z, v = .str z ∧ Q (if z = x then some [] else none)
theorem pp_str {x : Str} {j : Nat} {p1 pos : Pos} : PPat X (.MatchValue (.Constant (.str x) j p1) pos) (tPStr x) := by
  refine ⟨fun pins s σ H v u Q I r h => ?_⟩
  obtain ⟨z, rfl, q⟩ := h
  obtain ⟨t, rfl⟩ := r
  refine wpAny_matchPattern_Value (Calls.Constant_str (PyProof.Rows.eq_str (wpAny_truthy_bool ?_)))
  have I' := I.tok (s.toks + 1)
  by_cases e : z = x
  · subst e
    have e2 : (z == z) = true := by simp
    rw [if_pos e2]
    rw [if_pos rfl] at q
    exact ⟨some [], I', (show Paired (BndOk X) [] [] from .nil), q⟩
  · have e2 : ¬ (z == x) = true := fun h => e (by simpa using h)
    rw [if_neg e2]
    rw [if_neg e] at q
    exact ⟨none, I', trivial, q⟩
def tPNil : TPats := fun _ _ Q => Q (some [])
theorem pps_nil' : PPats X [] tPNil := ⟨fun pins s σ H vs us Q I r h => wpAny_matchEach_nil ⟨some [], I, (show Paired (BndOk X) [] [] from .nil), h⟩⟩
def tPCons (t : TPat) (u : TPats) : TPats := fun vs H Q => ∃ v r, vs = v :: r ∧ t v H fun b => match b with
  | none => Q none
  | some bs => u r H fun c => match c with
    | none => Q none
    | some cs => Q (some (bs ++ cs))
theorem pps_cons' {p : Pattern} {ps : List Pattern} {t : TPat} {u : TPats} (h1 : PPat X p t) (h2 : PPats X ps u) (hp : p.isStar = false := by rfl) : PPats X (p :: ps) (tPCons t u) := by
  refine ⟨fun pins s σ H vs us Q I r h => ?_⟩
  obtain ⟨v, w, rfl, h⟩ := h
  cases r with
  | cons r rr =>
    refine wpAny_matchEach_cons (thn (h1.run pins s σ H _ _ _ I r h) fun a s1 ⟨b, I1, rb, q⟩ => ?_) hp
    cases b with
    | none =>
      cases a with
      | none => exact ⟨none, I1, trivial, q⟩
      | some us => exact rb.elim
    | some bs =>
      cases a with
      | none => exact rb.elim
      | some us =>
        refine thn (h2.run pins s1 σ H _ _ _ I1 rr q) fun a2 s2 ⟨c, I2, rc, q2⟩ => ?_
        cases c with
        | none =>
          cases a2 with
          | none => exact ⟨none, I2, trivial, q2⟩
          | some _ => exact rc.elim
        | some cs =>
          cases a2 with
          | none => exact rc.elim
          | some ws => exact ⟨some (bs ++ cs), I2, Paired.appendP rb rc, q2⟩
/-- a sequence pattern at a tuple -/
def tPSeq (K : PySem.W.Frag) (n : Nat) (t : TPats) : TPat := fun v H Q => ∃ a xs, v = .ref a ∧ SqT K H a xs ∧ if xs.length = n then t xs H Q else Q none
theorem pp_seq {ps : List Pattern} {pos : Pos} {t : TPats} {n : Nat} (hc : X.calm = true) (h : PPats X ps t) (hn : ps.length = n := by rfl) (hstar : ps.findIdx? (·.isStar) = none := by rfl)
    (hwild : (ps.all fun p => p.isWildcard || (p.isStar && p.names.isEmpty)) = false := by rfl) : PPat X (.MatchSequence ps pos) (tPSeq X.K n t) := by
  refine ⟨fun pins s σ H v u Q I r hw => ?_⟩
  obtain ⟨a, xs, rfl, hq, hw⟩ := hw
  obtain rfl : u = Value.ref a := r
  obtain ⟨its, rv, ht, hz⟩ := I.tuple hq
  have el := rv.length
  have hfit : ((its.toArray.size : Nat) : Int) < 2 ^ 63 := by
    have hs : sizeLine ≤ 2 ^ 62 := by decide
    simp only [List.size_toArray]
    omega
  by_cases e : xs.length = n
  · rw [if_pos e] at hw
    have e2 : its.toArray.size = ps.length := by simp only [List.size_toArray]; omega
    refine matchSeq_tuple_hit ht hfit e2 ?_ hstar hwild
    rw [← e2]
    refine unpackItems_tuple (I.ok.hd hc) (by exact ht) fun h' hx => ?_
    have I1 : Inv X pins σ H { s with heap := h', toks := s.toks + 1 + 1 } := I.kept fun b o q => hx b o (Nat.ne_of_lt (Heap.lt_size q)) q
    exact h.run pins _ σ H xs _ Q I1 (by simpa using rv) hw
  · rw [if_neg e] at hw
    have e2 : its.toArray.size ≠ ps.length := by simp only [List.size_toArray]; omega
    exact matchSeq_tuple_miss ht hfit e2 ⟨none, I.tok _, trivial, hw⟩ hstar hwild
/-! ### cases -/
abbrev TCs := V → Ends → L2.St → Hp → Prop
structure PCs (X : Cx) (cs : List MatchCase) (t : TCs) : Prop where
  run : ∀ (first : Bool) (pins : List (Addr × Obj)) (s : Shared) (σ : L2.St) (H : Hp) (D : Ends) (v : V) (u : Value), Inv X pins σ H s → RelV v u → t v D σ H →
    wpAny (model X.prog X.w) X.A (matchCases cs X.env u first) (SP X pins D) X.xe s
def setAll (σ : L2.St) : Bnd → L2.St
  | [] => σ
  | p :: r => setAll (σ.set p.1 (some p.2)) r
def tCsNil : TCs := fun _ D σ H => D.nx σ H
theorem pcs_nil : PCs X [] tCsNil := ⟨fun _ pins s σ H D v u I r h => wpAny_matchCases_nil ⟨σ, H, I, h⟩⟩
def tCase (t : TPat) (tb : TS) (tr : TCs) : TCs := fun v D σ H => t v H fun b => match b with
  | none => tr v D σ H
  | some bs => tb D (setAll σ bs) H
theorem assign_bnd (hN : X.N.Nodup) : ∀ {bs : Bnd} {us : List (Str × Value)} {pins : List (Addr × Obj)} {s : Shared} {σ : L2.St} {H : Hp} {Q : Unit → Shared → Prop}, Paired (BndOk X) bs us → Inv X pins σ H s → (∀ s', Inv X pins (setAll σ bs) H s' → Q () s') →
    wpAny (model X.prog X.w) X.A (assignInOrder (us.map fun (n, _) => bindName X.env n) (us.map (·.2))) Q X.xe s
  | _, _, _, s, _, _, _, .nil, I, h => assignInOrder_nil (h s I)
  | p :: bs, q :: us, pins, s, σ, H, Q, .cons r t, I, h => by
    obtain ⟨h1, h2, h3⟩ := r
    exact assignInOrder_cons (wpAny_bindName (store_ok I hN h1 (.inl h2) h3 (fun s' I' => assign_bnd hN t I' fun s2 I2 => h s2 I2) (.inr h2)))
theorem pcs_cons {p : Pattern} {body : List Stmt} {rest : List MatchCase} {t : TPat} {tb : TS} {tr : TCs} (hN : X.N.Nodup) (hp : PPat X p t) (hb : PSs X body tb) (hr : PCs X rest tr) : PCs X (⟨p, none, body⟩ :: rest) (tCase t tb tr) := by
  refine ⟨fun first pins s σ H D v u I r h => ?_⟩
  refine wpAny_matchCases_cons (thn (hp.run pins s σ H v u _ I r h) fun a s1 ⟨b, I1, rb, q⟩ => ?_)
  cases b with
  | none =>
    cases a with
    | none => exact hr.run false pins s1 σ H D v u I1 r q
    | some _ => exact rb.elim
  | some bs =>
    cases a with
    | none => exact rb.elim
    | some us => exact assign_bnd hN rb I1 fun s2 I2 => hb.run pins s2 _ H D I2 q
def tMatch (te : TE) (tc : TCs) : TS := fun D σ H => te σ H fun x H1 => tc x D σ H1
theorem ps_match {e : Expr} {cs : List MatchCase} {pos : Pos} {te : TE} {tc : TCs} (he : PE X e te) (hc : PCs X cs tc) : PS X (.Match e cs pos) (tMatch te tc) := by
  refine ⟨fun pins s σ H D I h => ?_⟩
  exact wpAny_Match (thn (he.run pins s σ H _ I h) fun v s1 ⟨x, H1, I1, r1, q1⟩ => hc.run true pins s1 σ H1 D x v I1 r1 q1)
end
end Pw
namespace Pw
open PySem PySem.Spec PyProof.Rows L2
/-! ### heaps -/
/-- all but S is as it was; tuples never change -/
structure Oth (S : List Addr) (H H' : Hp) : Prop where
  keep : ∀ a o, a ∉ S → H a = some o → H' a = some o
  tup : ∀ a xs, H a = some (.tup xs) → H' a = some (.tup xs)
section
variable {S S' : List Addr} {H H' H2 : Hp} {p b : Addr} {o : HO} {xs : List V}
theorem Oth.refl : Oth S H H := ⟨fun _ _ _ h => h, fun _ _ h => h⟩
theorem Oth.trans (x : Oth S H H') (y : Oth S H' H2) : Oth S H H2 := ⟨fun a o n h => y.keep a o n (x.keep a o n h), fun a xs h => y.tup a xs (x.tup a xs h)⟩
theorem Oth.new (h : H p = none) : Oth S H (upd H p o) := ⟨fun a o' _ q => by rw [upd_ne (ne_of_none q h)]; exact q, fun a xs q => by rw [upd_ne (ne_of_none q h)]; exact q⟩
theorem Oth.put (hb : b ∈ S) (h : H b = some (.lst xs)) : Oth S H (upd H b o) :=
  ⟨fun a o' n q => by rw [upd_ne (fun e => n (by rw [e]; exact hb))]; exact q, fun a xs q => by rw [upd_ne (ne_of q h (by intro z; cases z))]; exact q⟩
theorem Oth.mono (x : Oth S H H') (h : ∀ a ∈ S, a ∈ S') : Oth S' H H' := ⟨fun a o n => x.keep a o fun z => n (h a z), x.tup⟩
/-- what was not there may be forgotten -/
theorem Oth.drop (x : Oth (p :: S) H H') (h : H p = none) : Oth S H H' :=
  ⟨fun a o n q => x.keep a o (fun z => (List.mem_cons.mp z).elim (fun e => by rw [e, h] at q; cases q) n) q, x.tup⟩
theorem Oth.drop2 (x : Oth (b :: p :: S) H H') (h : H p = none) : Oth (b :: S) H H' :=
  Oth.drop (p := p) (x.mono fun a z => by simp only [List.mem_cons] at z ⊢; rcases z with z | z | z <;> simp [z]) h
theorem Oth.ne (x : Oth S H H') (h : H' p = none) (hb : b ∉ S) (q : H b = some o) : b ≠ p := ne_of_none (x.keep b o hb q) h
theorem Oth.lst (x : Oth S H H') (hb : b ∉ S) (q : H b = some (.lst xs)) : H' b = some (.lst xs) := x.keep b _ hb q
theorem Oth.sqT {K : PySem.W.Frag} (x : Oth S H H') (h : H b = some (.tup xs)) : SqT K H' b xs := SqT.of (x.tup b xs h)
end
/-! ### data that never change -/
inductive T where
  | non | bl (b : Bool) | int (i : Int) | str (s : Str) | tup (ts : List T)
inductive IsT (H : Hp) : T → V → Prop
  | non : IsT H .non .non
  | bl (b : Bool) : IsT H (.bl b) (.bl b)
  | int (i : Int) : IsT H (.int i) (.int i)
  | str (s : Str) : IsT H (.str s) (.str s)
  | tup {a : Addr} {xs : List V} {ts : List T} : H a = some (.tup xs) → xs.length = ts.length → (∀ (i : Nat) (t : T) (x : V), ts[i]? = some t → xs[i]? = some x → IsT H t x) → IsT H (.tup ts) (.ref a)
section
variable {H H' : Hp} {S : List Addr} {a : Addr} {xs : List V} {ts : List T} {t : T} {v : V}
theorem IsT.oth (h : IsT H t v) (o : Oth S H H') : IsT H' t v := by
  induction h with
  | non => exact .non
  | bl b => exact .bl b
  | int i => exact .int i
  | str s => exact .str s
  | tup e l _ ih => exact .tup (o.tup _ _ e) l ih
theorem paired_of : ∀ {ts : List T} {xs : List V}, xs.length = ts.length → (∀ (i : Nat) (t : T) (x : V), ts[i]? = some t → xs[i]? = some x → IsT H t x) → Paired (IsT H) ts xs
  | [], [], _, _ => .nil
  | [], _ :: _, l, _ => by cases l
  | _ :: _, [], l, _ => by cases l
  | t :: ts, x :: xs, l, h => .cons (h 0 t x rfl rfl) (paired_of (Nat.succ.inj l) fun i t' x' e1 e2 => h (i + 1) t' x' e1 e2)
theorem paired_get : ∀ {ts : List T} {xs : List V}, Paired (IsT H) ts xs → xs.length = ts.length ∧ ∀ (i : Nat) (t : T) (x : V), ts[i]? = some t → xs[i]? = some x → IsT H t x
  | _, _, .nil => ⟨rfl, fun i t x e => by simp at e⟩
  | _, _, .cons r q => by
    obtain ⟨l, h⟩ := paired_get q
    refine ⟨congrArg (· + 1) l, fun i t x e1 e2 => ?_⟩
    cases i with
    | zero => cases e1; cases e2; exact r
    | succ i => exact h i t x e1 e2
theorem IsT.inv (h : IsT H (.tup ts) v) : ∃ a xs, v = .ref a ∧ H a = some (.tup xs) ∧ Paired (IsT H) ts xs := by
  cases h with
  | tup e l q => exact ⟨_, _, rfl, e, paired_of l q⟩
theorem IsT.mk (e : H a = some (.tup xs)) (q : Paired (IsT H) ts xs) : IsT H (.tup ts) (.ref a) := .tup e (paired_get q).1 (paired_get q).2
theorem paired_oth : ∀ {ts : List T} {xs : List V}, Paired (IsT H) ts xs → Oth S H H' → Paired (IsT H') ts xs
  | _, _, .nil, _ => .nil
  | _, _, .cons r q, o => .cons (r.oth o) (paired_oth q o)
theorem paired_app {us : List T} {ys : List V} (p : Paired (IsT H) ts xs) (q : Paired (IsT H) us ys) : Paired (IsT H) (ts ++ us) (xs ++ ys) := Paired.appendP p q
theorem paired_int : ∀ {ns : List Int} {xs : List V}, Paired (IsT H) (ns.map T.int) xs → xs = ns.map V.int
  | [], _, .nil => rfl
  | n :: ns, _, .cons r q => by
    cases r
    rw [paired_int q]
    rfl
theorem int_paired : ∀ (ns : List Int), Paired (IsT H) (ns.map T.int) (ns.map V.int)
  | [] => .nil
  | n :: ns => .cons (.int n) (int_paired ns)
theorem IsT.ints {ns : List Int} (h : IsT H (.tup (ns.map T.int)) v) : ∃ a, v = .ref a ∧ H a = some (.tup (ns.map V.int)) := by
  obtain ⟨a, xs, rfl, e, p⟩ := h.inv
  rw [paired_int p] at e
  exact ⟨a, rfl, e⟩
theorem IsT.of_int {i : Int} (h : IsT H (.int i) v) : v = .int i := by cases h; rfl
theorem IsT.of_str {s : Str} (h : IsT H (.str s) v) : v = .str s := by cases h; rfl
theorem IsT.of_non (h : IsT H .non v) : v = .non := by cases h; rfl
theorem IsT.inv1 {t1 : T} (h : IsT H (.tup [t1]) v) : ∃ a x1, v = .ref a ∧ H a = some (.tup [x1]) ∧ IsT H t1 x1 := by
  obtain ⟨a, xs, rfl, e, p⟩ := h.inv
  cases p with | cons p1 p => cases p; exact ⟨a, _, rfl, e, p1⟩
theorem IsT.inv2 {t1 t2 : T} (h : IsT H (.tup [t1, t2]) v) : ∃ a x1 x2, v = .ref a ∧ H a = some (.tup [x1, x2]) ∧ IsT H t1 x1 ∧ IsT H t2 x2 := by
  obtain ⟨a, xs, rfl, e, p⟩ := h.inv
  cases p with | cons p1 p => cases p with | cons p2 p => cases p; exact ⟨a, _, _, rfl, e, p1, p2⟩
theorem IsT.inv3 {t1 t2 t3 : T} (h : IsT H (.tup [t1, t2, t3]) v) : ∃ a x1 x2 x3, v = .ref a ∧ H a = some (.tup [x1, x2, x3]) ∧ IsT H t1 x1 ∧ IsT H t2 x2 ∧ IsT H t3 x3 := by
  obtain ⟨a, xs, rfl, e, p⟩ := h.inv
  cases p with | cons p1 p => cases p with | cons p2 p => cases p with | cons p3 p => cases p; exact ⟨a, _, _, _, rfl, e, p1, p2, p3⟩
theorem IsT.inv4 {t1 t2 t3 t4 : T} (h : IsT H (.tup [t1, t2, t3, t4]) v) : ∃ a x1 x2 x3 x4, v = .ref a ∧ H a = some (.tup [x1, x2, x3, x4]) ∧ IsT H t1 x1 ∧ IsT H t2 x2 ∧ IsT H t3 x3 ∧ IsT H t4 x4 := by
  obtain ⟨a, xs, rfl, e, p⟩ := h.inv
  cases p with | cons p1 p => cases p with | cons p2 p => cases p with | cons p3 p => cases p with | cons p4 p => cases p; exact ⟨a, _, _, _, _, rfl, e, p1, p2, p3, p4⟩
theorem IsT.inv5 {t1 t2 t3 t4 t5 : T} (h : IsT H (.tup [t1, t2, t3, t4, t5]) v) : ∃ a x1 x2 x3 x4 x5, v = .ref a ∧ H a = some (.tup [x1, x2, x3, x4, x5]) ∧ IsT H t1 x1 ∧ IsT H t2 x2 ∧ IsT H t3 x3 ∧ IsT H t4 x4 ∧ IsT H t5 x5 := by
  obtain ⟨a, xs, rfl, e, p⟩ := h.inv
  cases p with | cons p1 p => cases p with | cons p2 p => cases p with | cons p3 p => cases p with | cons p4 p => cases p with | cons p5 p => cases p; exact ⟨a, _, _, _, _, _, rfl, e, p1, p2, p3, p4, p5⟩
theorem IsT.mk1 {t1 : T} {x1 : V} (e : H a = some (.tup [x1])) (p1 : IsT H t1 x1) : IsT H (.tup [t1]) (.ref a) := .mk e (.cons p1 .nil)
theorem IsT.mk2 {t1 t2 : T} {x1 x2 : V} (e : H a = some (.tup [x1, x2])) (p1 : IsT H t1 x1) (p2 : IsT H t2 x2) : IsT H (.tup [t1, t2]) (.ref a) := .mk e (.cons p1 (.cons p2 .nil))
theorem IsT.mk3 {t1 t2 t3 : T} {x1 x2 x3 : V} (e : H a = some (.tup [x1, x2, x3])) (p1 : IsT H t1 x1) (p2 : IsT H t2 x2) (p3 : IsT H t3 x3) : IsT H (.tup [t1, t2, t3]) (.ref a) := .mk e (.cons p1 (.cons p2 (.cons p3 .nil)))
theorem IsT.mk4 {t1 t2 t3 t4 : T} {x1 x2 x3 x4 : V} (e : H a = some (.tup [x1, x2, x3, x4])) (p1 : IsT H t1 x1) (p2 : IsT H t2 x2) (p3 : IsT H t3 x3) (p4 : IsT H t4 x4) : IsT H (.tup [t1, t2, t3, t4]) (.ref a) := .mk e (.cons p1 (.cons p2 (.cons p3 (.cons p4 .nil))))
theorem IsT.mk5 {t1 t2 t3 t4 t5 : T} {x1 x2 x3 x4 x5 : V} (e : H a = some (.tup [x1, x2, x3, x4, x5])) (p1 : IsT H t1 x1) (p2 : IsT H t2 x2) (p3 : IsT H t3 x3) (p4 : IsT H t4 x4) (p5 : IsT H t5 x5) : IsT H (.tup [t1, t2, t3, t4, t5]) (.ref a) := .mk e (.cons p1 (.cons p2 (.cons p3 (.cons p4 (.cons p5 .nil)))))
end
/-! ### ways that meet behind a statement -/
section
variable {X : Cx} {st : Stmt} {rest : List Stmt} {t u : TS}
def tCut (t u : TS) : TS := fun D σ H => ∃ Mid : L2.St → Hp → Prop, t { D with nx := Mid } σ H ∧ ∀ σ' H', Mid σ' H' → u D σ' H'
theorem pss_cut (h1 : PS X st t) (h2 : PSs X rest u) : PSs X (st :: rest) (tCut t u) := by
  refine ⟨fun pins s σ H D I h => ?_⟩
  obtain ⟨Mid, h, hm⟩ := h
  refine wpAny_execs_cons (thn (h1.run pins s σ H { D with nx := Mid } I h) fun f s1 q => ?_)
  cases f with
  | next =>
    obtain ⟨σ', H', I', q⟩ := q
    exact h2.run pins s1 σ' H' D I' (hm _ _ q)
  | ret v => exact q
  | brk => exact q
  | cont => exact q
end
theorem Oth.sqL {K : PySem.W.Frag} {H H' : Hp} {S : List Addr} {a : Addr} {xs : List V} (x : Oth S H H') (n : a ∉ S) (h : SqL K H a xs) : SqL K H' a xs := by
  rcases h with (h | ⟨o, h⟩) | h
  · exact .inl (.inl (x.keep _ _ n h))
  · exact .inl (.inr ⟨o, x.keep _ _ n h⟩)
  · exact .inr h
/-! ### cases of a match -/
section
variable {K : PySem.W.Frag} {H : Hp} {a : Addr} {n : Nat} {z x : Str} {r : List V} {u : TPats} {tb : TS} {tr : TCs} {D : Ends} {σ : L2.St}
theorem case_skip (h : SqT K H a (.str z :: r)) (hz : z ≠ x) (q : tr (.ref a) D σ H) : tCase (tPSeq K n (tPCons (tPStr x) u)) tb tr (.ref a) D σ H := by
  refine ⟨a, _, rfl, h, ?_⟩
  by_cases e : (V.str z :: r).length = n
  · rw [if_pos e]
    refine ⟨_, _, rfl, z, rfl, ?_⟩
    rw [if_neg hz]
    exact q
  · rw [if_neg e]
    exact q
theorem case_len (h : SqT K H a r) (hz : r.length ≠ n) (q : tr (.ref a) D σ H) : tCase (tPSeq K n u) tb tr (.ref a) D σ H := by
  refine ⟨a, _, rfl, h, ?_⟩
  rw [if_neg hz]
  exact q
theorem case_hit (h : SqT K H a (.str x :: r)) (hl : r.length + 1 = n) (q : u r H fun c => match c with
    | none => tr (.ref a) D σ H
    | some bs => tb D (setAll σ bs) H) : tCase (tPSeq K n (tPCons (tPStr x) u)) tb tr (.ref a) D σ H := by
  refine ⟨a, _, rfl, h, ?_⟩
  rw [if_pos (show (V.str x :: r).length = n from hl)]
  refine ⟨_, _, rfl, x, rfl, ?_⟩
  rw [if_pos rfl]
  exact q
end
end Pw
namespace Pw
open PySem PySem.Spec PyProof.Rows L2
/-! ### expressions -/
inductive E where
  | num (n : Int) | cell (i : Nat) | prop (i : Nat) | store (i : Nat) | index
  | plus (a b : E) | minus (a b : E) | same (a b : E) | less (a b : E) | ite (c a b : E)
def E.toT : E → T
  | .num n => .tup [.str "num", .int n]
  | .cell i => .tup [.str "cell", .int (i : Int)]
  | .prop i => .tup [.str "prop", .int (i : Int)]
  | .store i => .tup [.str "store", .int (i : Int)]
  | .index => .tup [.str "index"]
  | .plus a b => .tup [.str "plus", a.toT, b.toT]
  | .minus a b => .tup [.str "minus", a.toT, b.toT]
  | .same a b => .tup [.str "same", a.toT, b.toT]
  | .less a b => .tup [.str "less", a.toT, b.toT]
  | .ite c a b => .tup [.str "if", c.toT, a.toT, b.toT]
def E.depth : E → Nat
  | .plus a b | .minus a b | .same a b | .less a b => max a.depth b.depth + 1
  | .ite c a b => max c.depth (max a.depth b.depth) + 1
  | _ => 0
def E.size : E → Nat
  | .plus a b | .minus a b | .same a b | .less a b => a.size + b.size
  | .ite c a b => c.size + a.size + b.size
  | _ => 1
structure Sc where
  cells : List Int
  props : List Int
  store : List Int
  index : Int
def Sc.toT (c : Sc) : T := .tup [.str "scope", .tup (c.cells.map .int), .tup (c.props.map .int), .tup (c.store.map .int), .int c.index]
def E.val (c : Sc) : E → Int
  | .num n => n
  | .cell i => c.cells.getD i 0
  | .prop i => c.props.getD i 0
  | .store i => c.store.getD i 0
  | .index => c.index
  | .plus a b => (a.val c + b.val c) % 1000
  | .minus a b => (a.val c - b.val c) % 1000
  | .same a b => if a.val c = b.val c then 1 else 0
  | .less a b => if a.val c < b.val c then 1 else 0
  | .ite q a b => if q.val c = 0 then b.val c else a.val c
def E.looks (c : Sc) : E → List Int
  | .store i => if i < c.store.length then [(i : Int)] else []
  | .plus a b | .minus a b | .same a b | .less a b => a.looks c ++ b.looks c
  | .ite q a b => q.looks c ++ if q.val c = 0 then b.looks c else a.looks c
  | _ => []
theorem E.size_pos : ∀ e : E, 1 ≤ e.size
  | .plus a b | .minus a b | .same a b | .less a b => by have := E.size_pos a; simp only [E.size]; omega
  | .ite q a b => by have := E.size_pos q; simp only [E.size]; omega
  | .num _ | .cell _ | .prop _ | .store _ | .index => by simp [E.size]
theorem E.looks_le (c : Sc) : ∀ e : E, (e.looks c).length ≤ e.size
  | .plus a b | .minus a b | .same a b | .less a b => by
    have h1 := E.looks_le c a
    have h2 := E.looks_le c b
    simp only [E.looks, E.size, List.length_append]
    omega
  | .ite q a b => by
    have h0 := E.looks_le c q
    have h1 := E.looks_le c a
    have h2 := E.looks_le c b
    simp only [E.looks, E.size, List.length_append]
    split <;> omega
  | .store i => by
    simp only [E.looks, E.size]
    split <;> simp
  | .num _ | .cell _ | .prop _ | .index => by simp [E.looks]
theorem getD_of {xs : List Int} {i : Nat} (h : i < xs.length) : (xs.map V.int)[i]? = some (.int (xs.getD i 0)) := by
  rw [List.getElem?_map, List.getElem?_eq_getElem h, List.getD_eq_getElem?_getD, List.getElem?_eq_getElem h]
  rfl
theorem getD_out {xs : List Int} {i : Nat} (h : ¬ i < xs.length) : xs.getD i 0 = 0 := by
  rw [List.getD_eq_getElem?_getD, List.getElem?_eq_none (by omega)]
  rfl
/-! ### what the defs promise -/
def spThere (K : PySem.W.Frag) : Sp := fun vs H Q _ => ∃ (a : Addr) (xs : List Int) (i : Nat), vs = [.ref a, .int (i : Int)] ∧ SqT K H a (xs.map V.int) ∧ Q (.bl (decide (i < xs.length))) H
def spItem (K : PySem.W.Frag) : Sp := fun vs H Q _ => ∃ (a : Addr) (xs : List Int) (i : Nat), vs = [.ref a, .int (i : Int)] ∧ SqT K H a (xs.map V.int) ∧ Q (.int (xs.getD i 0)) H
def spValue (n : Nat) : Sp := fun vs H Q _ => ∃ (e : E) (c : Sc) (ve vc : V) (l : Addr) (L : List V), vs = [ve, vc, .ref l] ∧ IsT H e.toT ve ∧ IsT H c.toT vc ∧ H l = some (.lst L) ∧ e.depth < n ∧ L.length + e.size ≤ 100000 ∧
  ∀ H', H' l = some (.lst (L ++ (e.looks c).map V.int)) → Oth [l] H H' → Q (.int (e.val c)) H'
end Pw
namespace Pw
open PySem PySem.Spec PyProof.Rows L2
theorem bo_int : bootBuiltins "int" = some (.type "int") := by decide +kernel
theorem bo_isi : bootBuiltins "isinstance" = some (.builtin "isinstance") := by decide +kernel
theorem bo_tuple : bootBuiltins "tuple" = some (.type "tuple") := by decide +kernel
theorem bo_bool : bootBuiltins "bool" = some (.type "bool") := by decide +kernel
theorem bo_str : bootBuiltins "str" = some (.type "str") := by decide +kernel
/-! ### what the law's own helpers promise -/
def spCell' (K : PySem.W.Frag) : Sp := fun vs H Q _ => ∃ (a : Addr) (ns : List Int) (j : Nat), vs = [.ref a, .int (j : Int)] ∧ SqL K H a (ns.map V.int) ∧ ∀ x : Int, Q (.int x) H
def spDigits (K : PySem.W.Frag) : Sp := fun vs H Q _ => ∃ (a : Addr) (ns : List Int) (i j : Nat), vs = [.ref a, .int (i : Int), .int (j : Int)] ∧ SqL K H a (ns.map V.int) ∧ i ≤ 100 ∧ j ≤ 100 ∧
  ∀ (p : Addr) (H' : Hp) (ds : List Int), H p = none → Oth [] H H' → H' p = some (.lst (ds.map V.int)) → Q (.ref p) H'
/-- the law's box: its digits, how many are drawn, what else stands in it -/
def Box (H : Hp) (b d : Addr) (rest : List V) : Prop := ∃ (ds : List Int) (at' : Nat), H b = some (.lst (.ref d :: .int (at' : Int) :: rest)) ∧ H d = some (.lst (ds.map V.int))
def spDraw : Sp := fun vs H Q _ => ∃ (b d : Addr) (m : Int) (rest : List V), vs = [.ref b, .int m] ∧ 0 < m ∧ Box H b d rest ∧
  ∀ (r : Int) (H' : Hp), 0 ≤ r → r < m → Box H' b d rest → Oth [b] H H' → Q (.int r) H'
theorem Box.new {H : Hp} {b d p : Addr} {rest : List V} {o : HO} (h : Box H b d rest) (n : H p = none) : Box (upd H p o) b d rest := by
  obtain ⟨ds, at', h1, h2⟩ := h
  exact ⟨ds, at', by rw [upd_ne (ne_of_none h1 n)]; exact h1, by rw [upd_ne (ne_of_none h2 n)]; exact h2⟩
theorem Box.put {H : Hp} {b d p : Addr} {rest : List V} {o : HO} (h : Box H b d rest) (nb : b ≠ p) (nd : d ≠ p) : Box (upd H p o) b d rest := by
  obtain ⟨ds, at', h1, h2⟩ := h
  exact ⟨ds, at', by rw [upd_ne nb]; exact h1, by rw [upd_ne nd]; exact h2⟩
theorem Box.is {H : Hp} {b d : Addr} {rest : List V} (h : Box H b d rest) : ∃ xs, H b = some (.lst xs) := by
  obtain ⟨ds, at', h1, h2⟩ := h
  exact ⟨_, h1⟩
theorem Box.nb {H : Hp} {b d p : Addr} {rest : List V} (h : Box H b d rest) (n : H p = none) : b ≠ p := by
  obtain ⟨ds, at', h1, h2⟩ := h
  exact ne_of_none h1 n
theorem Box.nd {H : Hp} {b d p : Addr} {rest : List V} (h : Box H b d rest) (n : H p = none) : d ≠ p := by
  obtain ⟨ds, at', h1, h2⟩ := h
  exact ne_of_none h2 n
theorem Box.oth {S : List Addr} {H H' : Hp} {b d : Addr} {rest : List V} (h : Box H b d rest) (o : Oth S H H') (nb : b ∉ S) (nd : d ∉ S) : Box H' b d rest := by
  obtain ⟨ds, at', h1, h2⟩ := h
  exact ⟨ds, at', o.keep _ _ nb h1, o.keep _ _ nd h2⟩
end Pw
namespace Pw
open PySem PySem.Spec PyProof.Rows L2
/-- data of at most so many levels, no row over 100,000 -/
inductive Dep : Nat → T → Prop
  | non (n : Nat) : Dep (n + 1) .non
  | int (n : Nat) (i : Int) : Dep (n + 1) (.int i)
  | str (n : Nat) (s : Str) : Dep (n + 1) (.str s)
  | tup (n : Nat) (ts : List T) : ts.length ≤ 100000 → (∀ t ∈ ts, Dep n t) → Dep (n + 1) (.tup ts)
def T.ty : T → String
  | .non => "NoneType" | .bl _ => "bool" | .int _ => "int" | .str _ => "str" | .tup _ => "tuple"
theorem IsT.ty {K : PySem.W.Frag} {H : Hp} {t : T} {v : V} (h : IsT H t v) : TyX K H v (.type t.ty) := by
  cases h with
  | non => exact .base .non
  | bl b => exact .base (.bl b)
  | int i => exact .base (.int i)
  | str s => exact .base (.str s)
  | tup e _ _ => exact .base (.tup e)
def spSame (n : Nat) : Sp := fun vs H Q _ => ∃ (t : T) (v u : V), vs = [v, u] ∧ IsT H t v ∧ IsT H t u ∧ Dep n t ∧ Q (.bl true) H
theorem Dep.mono {n m : Nat} {t : T} (h : Dep n t) (l : n ≤ m) : Dep m t := by
  induction h generalizing m with
  | non n => cases m with | zero => omega | succ m => exact .non m
  | int n i => cases m with | zero => omega | succ m => exact .int m i
  | str n s => cases m with | zero => omega | succ m => exact .str m s
  | tup n ts z _ ih => cases m with | zero => omega | succ m => exact .tup m ts z fun t ht => ih t ht (by omega)
theorem kb_NoneType_tuple : kitB "NoneType" "tuple" = some false := by decide +kernel
theorem kb_int_tuple : kitB "int" "tuple" = some false := by decide +kernel
theorem kb_int_bool : kitB "int" "bool" = some false := by decide +kernel
theorem kb_int_int : kitB "int" "int" = some true := by decide +kernel
theorem kb_str_tuple : kitB "str" "tuple" = some false := by decide +kernel
theorem kb_str_bool : kitB "str" "bool" = some false := by decide +kernel
theorem kb_str_int : kitB "str" "int" = some false := by decide +kernel
theorem kb_str_str : kitB "str" "str" = some true := by decide +kernel
theorem kb_tuple_tuple : kitB "tuple" "tuple" = some true := by decide +kernel
end Pw
namespace Pw
open PySem PySem.Spec PyProof.Rows L2
/-! ### templates -/
inductive Tp where
  | text (s : Str) | «show» (e : E)
  | box (tag : Str) (key : Option E) (action : Option Nat) (cs : List Tp)
  | when (e : E) (cs os : List Tp)
  | each (e : E) (cs : List Tp)
  | child (c : Nat) (key : Option E) (props : List E)
  | part (k : Nat) | input (tag : Str) (cell : Nat)
def keyT : Option E → T
  | none => .non
  | some e => e.toT
def actT : Option Nat → T
  | none => .non
  | some n => .int (n : Int)
mutual
def Tp.toT : Tp → T
  | .text s => .tup [.str "text", .str s]
  | .show e => .tup [.str "show", e.toT]
  | .box tag key action cs => .tup [.str "box", .str tag, keyT key, actT action, .tup (Tp.toTs cs)]
  | .when e cs os => .tup [.str "when", e.toT, .tup (Tp.toTs cs), .tup (Tp.toTs os)]
  | .each e cs => .tup [.str "each", e.toT, .tup (Tp.toTs cs)]
  | .child c key props => .tup [.str "child", .int (c : Int), keyT key, .tup (props.map E.toT)]
  | .part k => .tup [.str "part", .int (k : Int)]
  | .input tag cell => .tup [.str "input", .str tag, .int (cell : Int)]
def Tp.toTs : List Tp → List T
  | [] => []
  | t :: ts => t.toT :: Tp.toTs ts
end
mutual
def Tp.dep : Tp → Nat
  | .box _ _ _ cs | .each _ cs => Tp.deps cs + 1
  | .when _ cs os => max (Tp.deps cs) (Tp.deps os) + 1
  | _ => 0
def Tp.deps : List Tp → Nat
  | [] => 0
  | t :: ts => max t.dep (Tp.deps ts)
end
mutual
def Tp.cnt : Tp → Nat
  | .box _ _ _ cs | .each _ cs => Tp.cnts cs + 1
  | .when _ cs os => Tp.cnts cs + Tp.cnts os + 1
  | _ => 1
def Tp.cnts : List Tp → Nat
  | [] => 0
  | t :: ts => t.cnt + Tp.cnts ts
end
mutual
/-- the expressions are no deeper than 3, the props few -/
def Tp.Fine : Tp → Prop
  | .text _ | .part _ | .input _ _ => True
  | .show e => e.depth ≤ 3
  | .box _ key _ cs => (∀ e ∈ key, e.depth ≤ 3) ∧ Tp.Fines cs
  | .when e cs os => e.depth ≤ 3 ∧ Tp.Fines cs ∧ Tp.Fines os
  | .each e cs => e.depth ≤ 3 ∧ Tp.Fines cs
  | .child _ key props => (∀ e ∈ key, e.depth ≤ 3) ∧ props.length ≤ 10 ∧ ∀ e ∈ props, e.depth ≤ 3
def Tp.Fines : List Tp → Prop
  | [] => True
  | t :: ts => t.Fine ∧ Tp.Fines ts
end
/-- a template with its place and the kinds around it -/
structure Rw where
  place : List Int
  tp : Tp
  ar : List Str
mutual
def Tp.under (pl : List Int) (ar : List Str) : Tp → List Rw
  | .box _ _ _ cs => Tp.lst pl 0 (ar ++ [("box" : Str)]) cs
  | .each _ cs => Tp.lst pl 0 (ar ++ [("each" : Str)]) cs
  | .when _ cs os => Tp.lst (pl ++ [0]) 0 (ar ++ [("when" : Str)]) cs ++ Tp.lst (pl ++ [1]) 0 (ar ++ [("when" : Str)]) os
  | _ => []
def Tp.lst (pl : List Int) (k : Nat) (ar : List Str) : List Tp → List Rw
  | [] => []
  | t :: ts => ⟨pl ++ [(k : Int)], t, ar⟩ :: (t.under (pl ++ [(k : Int)]) ar ++ Tp.lst pl (k + 1) ar ts)
end
mutual
theorem Tp.under_len : ∀ (t : Tp) (pl : List Int) (ar : List Str), (t.under pl ar).length + 1 = t.cnt
  | .box _ _ _ cs, pl, ar => by simp only [Tp.under, Tp.cnt]; rw [Tp.lst_len cs]
  | .each _ cs, pl, ar => by simp only [Tp.under, Tp.cnt]; rw [Tp.lst_len cs]
  | .when _ cs os, pl, ar => by simp only [Tp.under, Tp.cnt, List.length_append]; rw [Tp.lst_len cs, Tp.lst_len os]
  | .text _, pl, ar | .show _, pl, ar | .child _ _ _, pl, ar | .part _, pl, ar | .input _ _, pl, ar => by simp [Tp.under, Tp.cnt]
theorem Tp.lst_len : ∀ (ts : List Tp) (pl : List Int) (k : Nat) (ar : List Str), (Tp.lst pl k ar ts).length = Tp.cnts ts
  | [], pl, k, ar => rfl
  | t :: ts, pl, k, ar => by
    have h := Tp.under_len t (pl ++ [(k : Int)]) ar
    simp only [Tp.lst, Tp.cnts, List.length_cons, List.length_append]
    rw [Tp.lst_len ts]
    omega
end
theorem Tp.toTs_map : ∀ ts : List Tp, Tp.toTs ts = ts.map Tp.toT
  | [] => rfl
  | t :: ts => by rw [Tp.toTs, Tp.toTs_map ts]; rfl
theorem Tp.cnt_pos (t : Tp) : 1 ≤ t.cnt := by cases t <;> simp [Tp.cnt]
theorem Tp.cnts_len : ∀ ts : List Tp, ts.length ≤ Tp.cnts ts
  | [] => Nat.le_refl _
  | t :: ts => by
    have := Tp.cnt_pos t
    have := Tp.cnts_len ts
    simp only [List.length_cons, Tp.cnts]
    omega
theorem Tp.lst_app : ∀ (ts us : List Tp) (pl : List Int) (k : Nat) (ar : List Str), Tp.lst pl k ar (ts ++ us) = Tp.lst pl k ar ts ++ Tp.lst pl (k + ts.length) ar us
  | [], us, pl, k, ar => rfl
  | t :: ts, us, pl, k, ar => by
    simp only [List.cons_append, Tp.lst, Tp.lst_app ts us, List.append_assoc, List.length_cons]
    rw [show k + 1 + ts.length = k + (ts.length + 1) by omega]
/-! ### how deep the data are -/
theorem E.dep : ∀ e : E, Dep (e.depth + 2) e.toT
  | .num n => .tup _ _ (by simp) (by simp; exact ⟨.str _ _, .int _ _⟩)
  | .cell i => .tup _ _ (by simp) (by simp; exact ⟨.str _ _, .int _ _⟩)
  | .prop i => .tup _ _ (by simp) (by simp; exact ⟨.str _ _, .int _ _⟩)
  | .store i => .tup _ _ (by simp) (by simp; exact ⟨.str _ _, .int _ _⟩)
  | .index => .tup _ _ (by simp) (by simp; exact .str _ _)
  | .plus a b => .tup _ _ (by simp) (by simp; exact ⟨.str _ _, (E.dep a).mono (by simp only [E.depth]; omega), (E.dep b).mono (by simp only [E.depth]; omega)⟩)
  | .minus a b => .tup _ _ (by simp) (by simp; exact ⟨.str _ _, (E.dep a).mono (by simp only [E.depth]; omega), (E.dep b).mono (by simp only [E.depth]; omega)⟩)
  | .same a b => .tup _ _ (by simp) (by simp; exact ⟨.str _ _, (E.dep a).mono (by simp only [E.depth]; omega), (E.dep b).mono (by simp only [E.depth]; omega)⟩)
  | .less a b => .tup _ _ (by simp) (by simp; exact ⟨.str _ _, (E.dep a).mono (by simp only [E.depth]; omega), (E.dep b).mono (by simp only [E.depth]; omega)⟩)
  | .ite c a b => .tup _ _ (by simp) (by simp; exact ⟨.str _ _, (E.dep c).mono (by simp only [E.depth]; omega), (E.dep a).mono (by simp only [E.depth]; omega), (E.dep b).mono (by simp only [E.depth]; omega)⟩)
theorem E.dep5 {e : E} (h : e.depth ≤ 3) (n : Nat) : Dep (5 + n) e.toT := (E.dep e).mono (by omega)
theorem key_dep {k : Option E} (h : ∀ e ∈ k, e.depth ≤ 3) (n : Nat) : Dep (5 + n) (keyT k) := by
  cases k with
  | none => rw [Nat.add_comm]; exact .non _
  | some e => exact E.dep5 (h e rfl) n
theorem act_dep (k : Option Nat) (n : Nat) : Dep (5 + n) (actT k) := by
  rw [Nat.add_comm]
  cases k with
  | none => exact .non _
  | some e => exact .int _ _
mutual
theorem Tp.dep_ok : ∀ t : Tp, t.Fine → t.cnt ≤ 5000 → Dep (6 + 2 * t.dep + 1) t.toT
  | .text s, h, hc => .tup _ _ (by simp) (by simp; exact ⟨.str _ _, .str _ _⟩)
  | .show e, h, hc => .tup _ _ (by simp) (by simp; exact ⟨.str _ _, (E.dep5 h 1).mono (by omega)⟩)
  | .box tag key a cs, h, hc => by
    simp only [Tp.cnt] at hc
    have q := Tp.deps_ok cs h.2 (by omega)
    refine .tup _ _ (by simp) ?_
    simp only [List.mem_cons, List.not_mem_nil, or_false, forall_eq_or_imp, forall_eq, Tp.dep]
    exact ⟨.str _ _, .str _ _, (key_dep h.1 0).mono (by omega), (act_dep a 0).mono (by omega), q.mono (by omega)⟩
  | .when e cs os, h, hc => by
    simp only [Tp.cnt] at hc
    have q1 := Tp.deps_ok cs h.2.1 (by omega)
    have q2 := Tp.deps_ok os h.2.2 (by omega)
    refine .tup _ _ (by simp) ?_
    simp only [List.mem_cons, List.not_mem_nil, or_false, forall_eq_or_imp, forall_eq, Tp.dep]
    exact ⟨.str _ _, (E.dep5 h.1 0).mono (by omega), q1.mono (by omega), q2.mono (by omega)⟩
  | .each e cs, h, hc => by
    simp only [Tp.cnt] at hc
    have q := Tp.deps_ok cs h.2 (by omega)
    refine .tup _ _ (by simp) ?_
    simp only [List.mem_cons, List.not_mem_nil, or_false, forall_eq_or_imp, forall_eq, Tp.dep]
    exact ⟨.str _ _, (E.dep5 h.1 0).mono (by omega), q.mono (by omega)⟩
  | .child c key props, h, hc => by
    refine .tup _ _ (by simp) ?_
    simp only [List.mem_cons, List.not_mem_nil, or_false, forall_eq_or_imp, forall_eq]
    refine ⟨.str _ _, .int _ _, (key_dep h.1 1).mono (by omega), .tup 5 _ (by rw [List.length_map]; have := h.2.1; omega) fun t ht => ?_⟩
    obtain ⟨e, he, rfl⟩ := List.mem_map.mp ht
    exact E.dep5 (h.2.2 e he) 0
  | .part k, h, hc => .tup _ _ (by simp) (by simp; exact ⟨.str _ _, .int _ _⟩)
  | .input tag c, h, hc => .tup _ _ (by simp) (by simp; exact ⟨.str _ _, .str _ _, .int _ _⟩)
theorem Tp.deps_ok : ∀ ts : List Tp, Tp.Fines ts → Tp.cnts ts ≤ 5000 → Dep (6 + 2 * Tp.deps ts + 2) (.tup (Tp.toTs ts))
  | [], h, hc => .tup _ _ (by simp [Tp.toTs]) (by simp [Tp.toTs])
  | t :: ts, h, hc => by
    have z := Tp.cnts_len ts
    simp only [Tp.cnts] at hc
    have q1 := Tp.dep_ok t h.1 (by omega)
    have q2 := Tp.deps_ok ts h.2 (by omega)
    cases q2 with
    | tup _ _ l q2 =>
      refine .tup _ _ (by simp only [Tp.toTs, List.length_cons, Tp.toTs_map, List.length_map]; omega) ?_
      simp only [Tp.toTs, List.mem_cons, Tp.deps]
      rintro u (rfl | hu)
      · exact q1.mono (by omega)
      · exact (q2 u hu).mono (by omega)
end
/-! ### tuples added -/
theorem cat_t {K : PySem.W.Frag} {H : Hp} {a b : Addr} {xs ys : List V} {Q : VK} (ha : H a = some (.tup xs)) (hb : H b = some (.tup ys)) (hz : xs.length + ys.length ≤ 100000)
    (q : ∀ (c : Addr) (H' : Hp), Oth [] H H' → H' c = some (.tup (xs ++ ys)) → Q (.ref c) H') : rCatA K (.ref a) (.ref b) H Q := by
  refine ⟨a, b, xs, ys, rfl, rfl, SqT.of ha, SqT.of hb, Nat.le_trans hz (by decide), fun e => ?_, fun _ e => ?_, fun _ _ p hp => ?_⟩
  · exact q b H Oth.refl (by rw [e]; exact hb)
  · exact q a H Oth.refl (by rw [e, List.append_nil]; exact ha)
  · exact q p _ (Oth.new hp) upd_same
end Pw
namespace Pw
open PySem PySem.Spec PyProof.Rows L2
def spWide (n : Nat) : Sp := fun vs H Q _ => ∃ (b dg : Addr) (d : Nat), vs = [.ref b, .int (d : Int)] ∧ d < n ∧ Box H b dg [] ∧
  ∀ (e : E) (v : V) (H' : Hp), e.depth ≤ d → e.size ≤ 3 ^ d → IsT H' e.toT v → Box H' b dg [] → Oth [b] H H' → Q v H'
/-- _law_value: the scope is a list -/
def spLawValue (n : Nat) : Sp := fun vs H Q _ => ∃ (e : E) (c : Sc) (ve : V) (s ac ap as l : Addr) (L : List V), vs = [ve, .ref s, .ref l] ∧ IsT H e.toT ve ∧ H s = some (.lst [.ref ac, .ref ap, .ref as, .int c.index]) ∧
  H ac = some (.tup (c.cells.map V.int)) ∧ H ap = some (.tup (c.props.map V.int)) ∧ H as = some (.tup (c.store.map V.int)) ∧ s ≠ l ∧ H l = some (.lst L) ∧ e.depth < n ∧ L.length + e.size ≤ 100000 ∧
  ∀ H', H' l = some (.lst (L ++ (e.looks c).map V.int)) → Oth [l] H H' → Q (.int (e.val c)) H'
theorem at0 {x : V} {xs : List V} : atI (x :: xs) 0 = some x := atI_nat (j := 0) rfl
theorem at1 {x y : V} {xs : List V} : atI (x :: y :: xs) 1 = some y := atI_nat (j := 1) rfl
theorem at2 {x y z : V} {xs : List V} : atI (x :: y :: z :: xs) 2 = some z := atI_nat (j := 2) rfl
theorem at3 {x y z a : V} {xs : List V} : atI (x :: y :: z :: a :: xs) 3 = some a := atI_nat (j := 3) rfl
theorem at4 {x y z a b : V} {xs : List V} : atI (x :: y :: z :: a :: b :: xs) 4 = some b := atI_nat (j := 4) rfl
theorem at5 {x y z a b c : V} {xs : List V} : atI (x :: y :: z :: a :: b :: c :: xs) 5 = some c := atI_nat (j := 5) rfl
theorem sz {n : Nat} (h : n ≤ 1000 := by exact Nat.le_of_ble_eq_true rfl) : n ≤ sizeLine := Nat.le_of_lt (small1000 h)
theorem iteTd {p A B : Prop} [Decidable p] (hp : p) (h : A) : if decide p = true then A else B := by rw [decide_eq_true hp]; exact iteT h
theorem iteFd {p A B : Prop} [Decidable p] (hp : ¬ p) (h : B) : if decide p = true then A else B := by rw [decide_eq_false hp]; exact iteF h
theorem iteTb {b : Bool} {A B : Prop} (hb : b = true) (h : A) : if b = true then A else B := by rw [hb]; exact iteT h
theorem iteFb {b : Bool} {A B : Prop} (hb : b = false) (h : B) : if b = true then A else B := by rw [hb]; exact iteF h
theorem lt1 {x y w : V} {r : List V} (h : eqV x w = false) : ∀ (m : Nat) (z' : V), m < 1 → (x :: y :: r)[m]? = some z' → eqV z' w = false := fun m z' hm e => by
  obtain rfl : m = 0 := by omega
  cases e
  exact h
theorem lt2 {x y z w : V} {r : List V} (h : eqV x w = false) (h2 : eqV y w = false) : ∀ (m : Nat) (z' : V), m < 2 → (x :: y :: z :: r)[m]? = some z' → eqV z' w = false := fun m z' hm e => by
  rcases (by omega : m = 0 ∨ m = 1) with rfl | rfl
  · cases e; exact h
  · cases e; exact h2
end Pw
namespace Pw
open PySem PySem.Spec PyProof.Rows L2
def natV (n : Nat) : V := .int (n : Int)
/-- what the law's box says of what is left: templates, repeats, parts -/
structure Bt where
  n2 : Int
  n4 : Int
  ps : List Nat
structure By (H : Hp) (b d pl : Addr) (z : Bt) : Prop where
  box : ∃ n3 : Int, Box H b d [.int z.n2, .int n3, .int z.n4, .ref pl]
  parts : H pl = some (.lst (z.ps.map natV))
  nd : pl ≠ d
section
variable {H H' : Hp} {b d pl p : Addr} {S : List Addr} {o : HO} {z : Bt}
theorem By.get (h : By H b d pl z) : ∃ (at' : Nat) (n3 : Int), H b = some (.lst [.ref d, .int (at' : Int), .int z.n2, .int n3, .int z.n4, .ref pl]) := by
  obtain ⟨⟨n3, ds, at', h1, h2⟩, _, _⟩ := h
  exact ⟨at', n3, h1⟩
theorem By.dig (h : By H b d pl z) : ∃ ds : List Int, H d = some (.lst (ds.map V.int)) := by
  obtain ⟨⟨n3, ds, at', h1, h2⟩, _, _⟩ := h
  exact ⟨ds, h2⟩
theorem By.ndb (h : By H b d pl z) : d ≠ b := by
  intro e
  obtain ⟨at', n3, h1⟩ := h.get
  obtain ⟨ds, h2⟩ := h.dig
  rw [e, h1] at h2
  cases ds with
  | nil => cases h2
  | cons x r => cases h2
theorem By.npb (h : By H b d pl z) : pl ≠ b := by
  intro e
  obtain ⟨at', n3, h1⟩ := h.get
  have h2 := h.parts
  rw [e, h1] at h2
  cases hz : z.ps with
  | nil => rw [hz] at h2; cases h2
  | cons x r => rw [hz] at h2; cases h2
theorem By.put (h : By H b d pl z) (at' : Nat) (n2 n3 n4 : Int) : By (upd H b (.lst [.ref d, .int (at' : Int), .int n2, .int n3, .int n4, .ref pl])) b d pl ⟨n2, n4, z.ps⟩ := by
  obtain ⟨ds, h2⟩ := h.dig
  exact ⟨⟨n3, ds, at', upd_same, by rw [upd_ne h.ndb]; exact h2⟩, by rw [upd_ne h.npb]; exact h.parts, h.nd⟩
theorem By.oth (h : By H b d pl z) (o : Oth S H H') (nb : b ∉ S) (nd : d ∉ S) (np : pl ∉ S) : By H' b d pl z := by
  obtain ⟨n3, hb⟩ := h.box
  exact ⟨⟨n3, hb.oth o nb nd⟩, o.keep _ _ np h.parts, h.nd⟩
theorem By.new (h : By H b d pl z) (n : H p = none) : By (upd H p o) b d pl z := h.oth (S := []) (Oth.new n) (by simp) (by simp) (by simp)
theorem By.is (h : By H b d pl z) : ∃ xs, H b = some (.lst xs) := let ⟨_, _, e⟩ := h.get; ⟨_, e⟩
theorem By.nb (h : By H b d pl z) (n : H p = none) : b ≠ p := let ⟨_, _, e⟩ := h.get; ne_of_none e n
theorem By.ndn (h : By H b d pl z) (n : H p = none) : d ≠ p := let ⟨_, e⟩ := h.dig; ne_of_none e n
theorem By.npn (h : By H b d pl z) (n : H p = none) : pl ≠ p := ne_of_none h.parts n
theorem By.swap {q : Addr} (h : By H b d pl z) (hq : H q = none) (ps : List Nat) (at' : Nat) (n2 n3 n4 : Int) :
    By (upd (upd H q (.lst (ps.map natV))) b (.lst [.ref d, .int (at' : Int), .int n2, .int n3, .int n4, .ref q])) b d q ⟨n2, n4, ps⟩ := by
  obtain ⟨ds, h2⟩ := h.dig
  exact ⟨⟨n3, ds, at', upd_same, by rw [upd_ne h.ndb, upd_ne (h.ndn hq)]; exact h2⟩, by rw [upd_ne (h.nb hq).symm]; exact upd_same, (h.ndn hq).symm⟩
theorem By.fresh (h : By H' b d pl z) (o : Oth [b] H H') (hp : H' p = none) : H p = none := by
  cases e : H p with
  | none => rfl
  | some x =>
    obtain ⟨xs, hb⟩ := h.is
    by_cases z : p = b
    · rw [z, hb] at hp; cases hp
    · rw [o.keep p _ (by simp [z]) e] at hp; cases hp
theorem By.lit {H1 : Hp} {l : Addr} {xs : List V} (h : By H b d pl z) (hl : H l = none) (o : Oth [b] (upd H l (.lst xs)) H1) : H1 l = some (.lst xs) := o.keep l _ (by simp [(h.nb hl).symm]) upd_same
end
theorem bo_max : bootBuiltins "max" = some (.builtin "max") := by decide +kernel
theorem rgV_nat (n : Nat) : rgV 0 (n : Int) = (List.range n).map natV := by
  unfold rgV
  rw [Int.sub_zero, Int.toNat_natCast]
  exact List.map_congr_left fun i _ => by rw [Int.zero_add]; rfl
theorem natV_toNat {r : Int} (h : 0 ≤ r) : V.int r = natV r.toNat := by
  show V.int r = V.int ((r.toNat : Nat) : Int)
  rw [Int.toNat_of_nonneg h]
theorem FnOk.weak {P : Program} {w : World} {K : PySem.W.Frag} {mg : Str → Option Value} {base : Heap} {CX : CXT} {k : Nat} {f : Addr} {fd : FuncData} {ps : List Str} {sp sp' : Sp} (o : FnOk P w K mg base CX k f fd ps sp) (h : ∀ vs H Q E, sp' vs H Q E → sp vs H Q E) : FnOk P w K mg base CX k f fd ps sp' :=
  ⟨fun vs H Q E q => o.len _ _ _ _ (h _ _ _ _ q), fun A outer s H args us vs Q E hr e0 hb r q => o.run A outer s H args us vs Q E hr e0 hb r (h _ _ _ _ q)⟩
def spDrawY : Sp := fun vs H Q _ => ∃ (z : Bt) (b d pl : Addr) (m : Int), vs = [.ref b, .int m] ∧ 0 < m ∧ By H b d pl z ∧
  ∀ (r : Int) (H' : Hp), 0 ≤ r → r < m → By H' b d pl z → Oth [b] H H' → Q (.int r) H'
theorem draw_y {vs : List V} {H : Hp} {Q : VK} {E : XK} (h : spDrawY vs H Q E) : spDraw vs H Q E := by
  obtain ⟨z, b, d, pl, m, rfl, hm, h, q⟩ := h
  obtain ⟨n3, hb⟩ := h.box
  exact ⟨b, d, m, _, rfl, hm, hb, fun r H' l u hb' o => q r H' l u ⟨⟨n3, hb'⟩, o.keep _ _ (by simp [h.npb]) h.parts, h.nd⟩ o⟩
theorem at_mem : ∀ {xs : List V} {r : Int}, 0 ≤ r → r < (xs.length : Int) → ∃ v ∈ xs, atI xs r = some v := by
  intro xs r h0 h1
  obtain ⟨j, rfl⟩ := Int.eq_ofNat_of_zero_le h0
  have hj : j < xs.length := by omega
  exact ⟨xs[j], List.getElem_mem hj, atI_nat (List.getElem?_eq_getElem hj)⟩
theorem Oth.two {b pl : Addr} {H H' : Hp} (o : Oth [b] H H') : Oth [b, pl] H H' := o.mono (by simp)
theorem toTs_app (a b : List Tp) : Tp.toTs (a ++ b) = Tp.toTs a ++ Tp.toTs b := by rw [Tp.toTs_map, Tp.toTs_map, Tp.toTs_map, List.map_append]
theorem deps_app (b : List Tp) : ∀ a : List Tp, Tp.deps (a ++ b) = max (Tp.deps a) (Tp.deps b)
  | [] => by simp [Tp.deps]
  | t :: a => by simp only [List.cons_append, Tp.deps, deps_app b a]; omega
theorem cnts_app (b : List Tp) : ∀ a : List Tp, Tp.cnts (a ++ b) = Tp.cnts a + Tp.cnts b
  | [] => by simp [Tp.cnts]
  | t :: a => by simp only [List.cons_append, Tp.cnts, cnts_app b a]; omega
theorem deps_parts : ∀ us : List Nat, Tp.deps (us.map Tp.part) = 0
  | [] => rfl
  | u :: us => by simp only [List.map_cons, Tp.deps, Tp.dep, deps_parts us]; rfl
theorem cnts_parts : ∀ us : List Nat, Tp.cnts (us.map Tp.part) = us.length
  | [] => rfl
  | u :: us => by simp only [List.map_cons, Tp.cnts, Tp.cnt, cnts_parts us, List.length_cons]; omega
/-! ### what is known of expressions and templates -/
def E.Ok : E → Prop
  | .num n => 0 ≤ n ∧ n < 1000
  | .plus a b | .minus a b | .same a b | .less a b => a.Ok ∧ b.Ok
  | .ite c a b => c.Ok ∧ a.Ok ∧ b.Ok
  | _ => True
mutual
/-- how many repeats -/
def Tp.ech : Tp → Nat
  | .box _ _ _ cs => Tp.echs cs
  | .each _ cs => Tp.echs cs + 1
  | .when _ cs os => Tp.echs cs + Tp.echs os
  | _ => 0
def Tp.echs : List Tp → Nat
  | [] => 0
  | t :: ts => t.ech + Tp.echs ts
end
mutual
/-- the parts that stand in it -/
def Tp.pts : Tp → List Nat
  | .box _ _ _ cs | .each _ cs => Tp.ptss cs
  | .when _ cs os => Tp.ptss cs ++ Tp.ptss os
  | .part k => [k]
  | _ => []
def Tp.ptss : List Tp → List Nat
  | [] => []
  | t :: ts => t.pts ++ Tp.ptss ts
end
def KeyOk (k : Option E) : Prop := ∀ e ∈ k, e.depth ≤ 1 ∧ e.Ok
mutual
def Tp.Ok (own last : Nat) (free : Bool) : Tp → Prop
  | .text s => s = "a" ∨ s = "b c" ∨ s = "7"
  | .show e => e.depth ≤ 1 ∧ e.Ok
  | .box tag key act cs => (tag = "p" ∨ tag = "div" ∨ tag = "li") ∧ KeyOk key ∧ (∀ n ∈ act, n ≤ 2) ∧ Tp.Oks own last free cs
  | .when e cs os => (e.depth ≤ 1 ∧ e.Ok) ∧ Tp.Oks own last false cs ∧ Tp.Oks own last false os
  | .each e cs => (e.depth ≤ 3 ∧ e.Ok) ∧ Tp.Oks own last false cs
  | .child c key props => own < c ∧ c ≤ last ∧ KeyOk key ∧ props.length ≤ 2 ∧ ∀ e ∈ props, e.depth ≤ 1 ∧ e.Ok
  | .part _ => own = 0 ∧ free = true
  | .input tag cell => tag = "q" ∧ cell ≤ 2
def Tp.Oks (own last : Nat) (free : Bool) : List Tp → Prop
  | [] => True
  | t :: ts => t.Ok own last free ∧ Tp.Oks own last free ts
end
theorem echs_app (b : List Tp) : ∀ a : List Tp, Tp.echs (a ++ b) = Tp.echs a + Tp.echs b
  | [] => by simp [Tp.echs]
  | t :: a => by simp only [List.cons_append, Tp.echs, echs_app b a]; omega
theorem ptss_app (b : List Tp) : ∀ a : List Tp, Tp.ptss (a ++ b) = Tp.ptss a ++ Tp.ptss b
  | [] => by simp [Tp.ptss]
  | t :: a => by simp only [List.cons_append, Tp.ptss, ptss_app b a, List.append_assoc]
theorem oks_app {own last : Nat} {free : Bool} {b : List Tp} (hb : Tp.Oks own last free b) : ∀ a : List Tp, Tp.Oks own last free a → Tp.Oks own last free (a ++ b)
  | [], _ => hb
  | t :: a, h => ⟨h.1, oks_app hb a h.2⟩
theorem oks_mem {own last : Nat} {free : Bool} : ∀ {a : List Tp}, Tp.Oks own last free a → ∀ t ∈ a, t.Ok own last free
  | [], _, t, h => nomatch h
  | u :: a, h, t, ht => by
    rcases List.mem_cons.mp ht with rfl | ht
    · exact h.1
    · exact oks_mem h.2 t ht
theorem echs_parts : ∀ us : List Nat, Tp.echs (us.map Tp.part) = 0
  | [] => rfl
  | u :: us => by simp only [List.map_cons, Tp.echs, Tp.ech, echs_parts us]
theorem ptss_parts : ∀ us : List Nat, Tp.ptss (us.map Tp.part) = us
  | [] => rfl
  | u :: us => by simp only [List.map_cons, Tp.ptss, Tp.pts, ptss_parts us]; rfl
theorem oks_parts {last : Nat} : ∀ us : List Nat, Tp.Oks 0 last true (us.map Tp.part)
  | [] => trivial
  | u :: us => ⟨⟨rfl, rfl⟩, oks_parts us⟩
mutual
theorem Tp.Ok.fine {own last : Nat} : ∀ {free : Bool} (t : Tp), t.Ok own last free → t.Fine
  | _, .text _, _ => trivial
  | _, .show e, h => Nat.le_trans h.1 (by decide)
  | _, .box _ key _ cs, h => ⟨fun e he => Nat.le_trans (h.2.1 e he).1 (by decide), Tp.Oks.fine cs h.2.2.2⟩
  | _, .when e cs os, h => ⟨Nat.le_trans h.1.1 (by decide), Tp.Oks.fine cs h.2.1, Tp.Oks.fine os h.2.2⟩
  | _, .each e cs, h => ⟨h.1.1, Tp.Oks.fine cs h.2⟩
  | _, .child _ key props, h => ⟨fun e he => Nat.le_trans (h.2.2.1 e he).1 (by decide), Nat.le_trans h.2.2.2.1 (by decide), fun e he => Nat.le_trans (h.2.2.2.2 e he).1 (by decide)⟩
  | _, .part _, _ => trivial
  | _, .input _ _, _ => trivial
theorem Tp.Oks.fine {own last : Nat} : ∀ {free : Bool} (ts : List Tp), Tp.Oks own last free ts → Tp.Fines ts
  | _, [], _ => trivial
  | _, t :: ts, h => ⟨Tp.Ok.fine t h.1, Tp.Oks.fine ts h.2⟩
end
mutual
theorem Tp.Ok.noparts {own last : Nat} {free : Bool} (hf : ¬ (own = 0 ∧ free = true)) : ∀ (t : Tp), t.Ok own last free → t.pts = []
  | .text _, _ | .show _, _ | .child _ _ _, _ | .input _ _, _ => rfl
  | .box _ _ _ cs, h => Tp.Oks.noparts hf cs h.2.2.2
  | .when _ cs os, h => by simp only [Tp.pts, Tp.Oks.noparts (free := false) (by simp) cs h.2.1, Tp.Oks.noparts (free := false) (by simp) os h.2.2, List.append_nil]
  | .each _ cs, h => Tp.Oks.noparts (free := false) (by simp) cs h.2
  | .part k, h => absurd h hf
theorem Tp.Oks.noparts {own last : Nat} {free : Bool} (hf : ¬ (own = 0 ∧ free = true)) : ∀ (ts : List Tp), Tp.Oks own last free ts → Tp.ptss ts = []
  | [], _ => rfl
  | t :: ts, h => by simp only [Tp.ptss, Tp.Ok.noparts hf t h.1, Tp.Oks.noparts hf ts h.2, List.append_nil]
end
/-! ### programs -/
inductive St1 where
  | set (i : Nat) (e : E) | put (i : Nat) (e : E) | up (a : Nat)
def St1.toT : St1 → T
  | .set i e => .tup [.str "set", .int (i : Int), e.toT]
  | .put i e => .tup [.str "put", .int (i : Int), e.toT]
  | .up a => .tup [.str "up", .int (a : Int)]
def St1.Ok : St1 → Prop
  | .set i e | .put i e => i ≤ 1 ∧ e.depth ≤ 1 ∧ e.Ok
  | .up a => a ≤ 1
def stepsT (r : List St1) : T := .tup (r.map St1.toT)
def actsT (a : List (List St1)) : T := .tup (a.map stepsT)
def natT (n : Nat) : T := .int (n : Int)
def natsT (ns : List Nat) : T := .tup (ns.map natT)
structure Cq where
  cells : List Nat
  cs : List Tp
  acts : List (List St1)
structure Pq where
  comps : List Cq
  store : List Nat
  parts : List Nat
def Cq.toT (c : Cq) : T := .tup [.str "component", natsT c.cells, .tup (Tp.toTs c.cs), actsT c.acts]
def Pq.toT (p : Pq) : T := .tup [.str "program", .tup (p.comps.map Cq.toT), natsT p.store, natsT p.parts]
structure Cq.Ok (i last : Nat) (parts : Nat) (c : Cq) : Prop where
  oks : Tp.Oks i last true c.cs
  deps : Tp.deps c.cs ≤ 3
  cnts : Tp.cnts c.cs ≤ 8
  echs : Tp.echs c.cs ≤ 1
  pts : (Tp.ptss c.cs).Perm (if i = 0 then List.range parts else [])
  cl : c.cells.length ≤ 2
  cells : ∀ n ∈ c.cells, n < 4
  al : c.acts.length = 2
  acts : ∀ a ∈ c.acts, a.length ≤ 2 ∧ ∀ s ∈ a, s.Ok
structure Pq.Ok (g : Pq) : Prop where
  comps : ∀ (i : Nat) (c : Cq), g.comps[i]? = some c → Cq.Ok i (g.comps.length - 1) g.parts.length c
  ne : 0 < g.comps.length
  many : g.comps.length ≤ 3
  pl : g.parts.length ≤ 2
  parts : ∀ n ∈ g.parts, 0 < n ∧ n < g.comps.length
  sl : g.store.length ≤ 2
  store : ∀ n ∈ g.store, n < 4
def spExprY (n : Nat) : Sp := fun vs H Q _ => ∃ (z : Bt) (b dg pl : Addr) (d : Nat), vs = [.ref b, .int (d : Int)] ∧ d < n ∧ By H b dg pl z ∧
  ∀ (e : E) (v : V) (H' : Hp), e.depth ≤ d → e.Ok → IsT H' e.toT v → By H' b dg pl z → Oth [b] H H' → Q v H'
def spKeyY : Sp := fun vs H Q _ => ∃ (z : Bt) (b dg pl : Addr), vs = [.ref b] ∧ By H b dg pl z ∧
  ∀ (k : Option E) (v : V) (H' : Hp), KeyOk k → IsT H' (keyT k) v → By H' b dg pl z → Oth [b] H H' → Q v H'
def spTemplateY (n : Nat) : Sp := fun vs H Q _ => ∃ (z : Bt) (b dg pl : Addr) (own level last r : Nat) (free : Bool), vs = [.ref b, .int (own : Int), .int (level : Int), .int (last : Int), .bl free] ∧ level + r = 3 ∧ r < n ∧ 0 < z.n2 ∧ 0 ≤ z.n4 ∧ By H b dg pl z ∧
  ∀ (z' : Bt) (t : Tp) (v : V) (H' : Hp), t.dep ≤ r → (t.cnt : Int) + z'.n2 = z.n2 → 0 ≤ z'.n2 → (t.ech : Int) + z'.n4 ≤ z.n4 → 0 ≤ z'.n4 → (t.pts ++ z'.ps).Perm z.ps → t.Ok own last free → IsT H' t.toT v → By H' b dg pl z' → Oth [b, pl] H H' → Q v H'
def spContentsY (n : Nat) : Sp := fun vs H Q _ => ∃ (z : Bt) (b dg pl : Addr) (own level last r : Nat) (free : Bool), vs = [.ref b, .int (own : Int), .int (level : Int), .int (last : Int), .bl free] ∧ level + r = 3 ∧ r < n ∧ 0 ≤ z.n2 ∧ 0 ≤ z.n4 ∧ By H b dg pl z ∧
  ∀ (z' : Bt) (ts : List Tp) (v : V) (H' : Hp), Tp.deps ts ≤ r → (Tp.cnts ts : Int) + z'.n2 = z.n2 → 0 ≤ z'.n2 → (Tp.echs ts : Int) + z'.n4 ≤ z.n4 → 0 ≤ z'.n4 → (Tp.ptss ts ++ z'.ps).Perm z.ps → Tp.Oks own last free ts → IsT H' (.tup (Tp.toTs ts)) v → By H' b dg pl z' → Oth [b, pl] H H' → Q v H'
def ActsOk (a : List (List St1)) : Prop := a.length = 2 ∧ ∀ r ∈ a, r.length ≤ 2 ∧ ∀ s ∈ r, s.Ok
def spActionsY : Sp := fun vs H Q _ => ∃ (z : Bt) (b dg pl : Addr), vs = [.ref b] ∧ By H b dg pl z ∧
  ∀ (a : List (List St1)) (v : V) (H' : Hp), ActsOk a → IsT H' (actsT a) v → By H' b dg pl z → Oth [b] H H' → Q v H'
def spProgramY : Sp := fun vs H Q _ => ∃ (z : Bt) (b dg pl : Addr), vs = [.ref b] ∧ By H b dg pl z ∧
  ∀ (g : Pq) (v : V) (pl' : Addr) (z' : Bt) (H' : Hp), g.Ok → IsT H' g.toT v → By H' b dg pl' z' → Oth [b] H H' → Q v H'
def spBoxY (K : PySem.W.Frag) : Sp := fun vs H Q _ => ∃ (a : Addr) (ns : List Int) (i j : Nat), vs = [.ref a, .int (i : Int), .int (j : Int)] ∧ SqL K H a (ns.map V.int) ∧ i ≤ 100 ∧ j ≤ 100 ∧
  ∀ (b d pl : Addr) (H' : Hp), H b = none → Oth [] H H' → By H' b d pl ⟨0, 0, []⟩ → Q (.ref b) H'
theorem nats_paired {H : Hp} : ∀ ms : List Nat, Paired (IsT H) (ms.map natT) (ms.map natV)
  | [] => .nil
  | m :: ms => .cons (.int _) (nats_paired ms)
theorem mkNats {H : Hp} {a : Addr} {ns : List Nat} (e : H a = some (.tup (ns.map natV))) : IsT H (natsT ns) (.ref a) := .mk e (nats_paired ns)
end Pw
namespace Pw
open PySem PySem.Spec PyProof.Rows L2
mutual
def T.nk : T → NestedKey
  | .non => .none
  | .bl b => .num (if b = true then 1 else 0)
  | .int i => .num i
  | .str s => .text s
  | .tup ts => .tup (T.nks ts)
def T.nks : List T → List NestedKey
  | [] => []
  | t :: ts => t.nk :: T.nks ts
end
theorem nks_len : ∀ ts : List T, (T.nks ts).length = ts.length
  | [] => rfl
  | t :: ts => congrArg (· + 1) (nks_len ts)
theorem nested_all {h : Heap} : ∀ (ts : List T) (xs : List V) (us : List Value), xs.length = ts.length → Vals xs us → (∀ (i : Nat) (t : T) (x : V), ts[i]? = some t → xs[i]? = some x → ∀ u, RelV x u → NestedIs h t.nk u) → NestedAll h (T.nks ts) us
  | [], [], _, _, .nil, _ => .nil
  | [], _ :: _, _, l, _, _ => by cases l
  | _ :: _, [], _, l, _, _ => by cases l
  | t :: ts, x :: xs, _, l, .cons r rr, q => .cons (q 0 t x rfl rfl _ r) (nested_all ts xs _ (Nat.succ.inj l) rr fun i t' x' e1 e2 => q (i + 1) t' x' e1 e2)
theorem nested_is {P : Program} {w : World} {H : Hp} {h : Heap} (ok : HOk P w H h) {t : T} {v : V} (i : IsT H t v) : ∀ u, RelV v u → NestedIs h t.nk u := by
  induction i with
  | non => intro u r; cases (show u = Value.none from r); exact .none
  | bl b => intro u r; cases (show u = Value.bool b from r); exact .bool rfl
  | int i => intro u r; obtain ⟨t, rfl⟩ := (show ∃ t, u = Value.int i t from r); exact .int _ _
  | str s => intro u r; obtain ⟨t, rfl⟩ := (show ∃ t, u = Value.str s t from r); exact .text _ _
  | @tup a xs ts e l _ ih =>
    intro u r
    cases (show u = Value.ref a from r)
    obtain ⟨_, its, rv, o, h1, h2, n, h3⟩ := (show ObjOk P w H h a (.tup xs) from ok a _ e)
    exact .tup h1 h2 h3 (nested_all ts xs its l rv ih)
/-- the one object of such a dict -/
def NDφ (P : Program) (w : World) (a : Addr) (xs : List (NestedKey × Addr × Value)) (h : Heap) : Prop :=
  ∃ o es ep, h.get? a = some o ∧ o.ExactDict ∧ o.data = .dict es ep ∧ es.toList = xs.map (entryOfKey (nestedKind P w)) ∧ (xs.map (·.1)).Nodup
/-- a key that stands in the heap -/
def NKey (H : Hp) (k : NestedKey) (b : Addr) : Prop := ∃ t : T, t.nk = k ∧ IsT H t (.ref b) ∧ k.depth ≤ 8
abbrev NT (H : Hp) : List (NestedKey × V) → List (NestedKey × Addr × Value) → Prop := Paired fun p q => p.1 = q.1 ∧ NKey H p.1 q.2.1 ∧ RelV p.2 q.2.2
/-- at a stands a dict of nested keys -/
def DN (P : Program) (w : World) (H : Hp) (a : Addr) (kvs : List (NestedKey × V)) : Prop :=
  ∃ xs, H a = some (.ext (NDφ P w a xs)) ∧ kvs.length ≤ sizeLine ∧ (a == sysModules) = false ∧ NT H kvs xs
section
variable {P : Program} {w : World} {H H' : Hp} {h : Heap} {a b : Addr} {S : List Addr} {kvs : List (NestedKey × V)} {xs : List (NestedKey × Addr × Value)} {k : NestedKey}
theorem NKey.oth (x : NKey H k b) (o : Oth S H H') : NKey H' k b := by
  obtain ⟨t, e, i, d⟩ := x
  exact ⟨t, e, i.oth o, d⟩
theorem NT.oth (r : NT H kvs xs) (o : Oth S H H') : NT H' kvs xs := by
  induction r with
  | nil => exact .nil
  | cons h t ih => exact .cons ⟨h.1, h.2.1.oth o, h.2.2⟩ ih
theorem DN.oth (x : DN P w H a kvs) (o : Oth S H H') (n : a ∉ S) : DN P w H' a kvs := by
  obtain ⟨xs, e, z, y, r⟩ := x
  exact ⟨xs, o.keep a _ n e, z, y, r.oth o⟩
theorem DN.ne (x : DN P w H a kvs) (n : H b = none) : a ≠ b := by
  obtain ⟨xs, e, z, y, r⟩ := x
  exact ne_of_none e n
theorem DN.is (x : DN P w H a kvs) : ∃ φ, H a = some (.ext φ) := by
  obtain ⟨xs, e, z, y, r⟩ := x
  exact ⟨_, e⟩
theorem NKey.ok (ok : HOk P w H h) (x : NKey H k b) : (nestedKind P w).is h k b := by
  obtain ⟨t, rfl, i, d⟩ := x
  exact ⟨nested_is ok i _ rfl, d⟩
theorem NT.all (ok : HOk P w H h) (r : NT H kvs xs) : ∀ x ∈ xs, (nestedKind P w).is h x.1 x.2.1 := by
  induction r with
  | nil => intro x hx; exact nomatch hx
  | cons q t ih =>
    intro x hx
    rcases List.mem_cons.mp hx with e | hx
    · subst e
      have := NKey.ok ok q.2.1
      rw [q.1] at this
      exact this
    · exact ih x hx
theorem DN.open (ok : HOk P w H h) (x : DN P w H a kvs) : ∃ xs, kvs.length ≤ sizeLine ∧ (a == sysModules) = false ∧ NT H kvs xs ∧ h.DictOfH (nestedKind P w) a xs := by
  obtain ⟨xs, e, z, y, r⟩ := x
  obtain ⟨⟨o, es, ep, h1, h2, h3, h4, h5⟩, _⟩ := (show ObjOk P w H h a (.ext (NDφ P w a xs)) from ok a _ e)
  exact ⟨xs, z, y, r, o, es, ep, h1, h2, h3, h4, r.all ok, h5⟩
theorem ND_ok (hm : h.DictOfH (nestedKind P w) a xs) : ObjOk P w H h a (.ext (NDφ P w a xs)) := by
  obtain ⟨o, es, ep, h1, h2, h3, h4, h6, h5⟩ := hm
  refine ⟨⟨o, es, ep, h1, h2, h3, h4, h5⟩, ⟨o, h1⟩, fun g1 g2 hg k => ?_⟩
  obtain ⟨o, es, ep, h1, h2, h3, h4, h5⟩ := hg
  exact ⟨o, es, ep, k _ h1, h2, h3, h4, h5⟩
theorem NT.val (r : NT H kvs xs) (k : NestedKey) : RelO (valV kvs k) ((atKey xs k).map (·.2)) := by
  induction r with
  | nil => exact True.intro
  | @cons p q ps qs h t ih =>
    obtain ⟨h1, h2, h3⟩ := h
    by_cases e : p.1 = k
    · have e' : q.1 = k := h1.symm.trans e
      have b : atKey (q :: qs) k = some q.2 := by simp [atKey, List.find?_cons, e']
      rw [valV_pos e, b]; exact h3
    · have e' : ¬ q.1 = k := fun z => e (h1.trans z)
      have b : atKey (q :: qs) k = atKey qs k := by simp [atKey, List.find?_cons, e']
      rw [valV_neg e, b]; exact ih
theorem NT.repl (r : NT H kvs xs) (k : NestedKey) {y : V} {u : Value} (ry : RelV y u) : NT H (kvs.map fun kv => if kv.1 = k then (kv.1, y) else kv) (xs.map (putAt k u)) := by
  induction r with
  | nil => exact .nil
  | @cons p q ps qs h t ih =>
    obtain ⟨h1, h2, h3⟩ := h
    rw [List.map_cons, List.map_cons]
    refine .cons ?_ ih
    unfold putAt
    by_cases e : p.1 = k
    · rw [if_pos e, if_pos (h1.symm.trans e)]; exact ⟨h1, h2, ry⟩
    · rw [if_neg e, if_neg (fun z => e (h1.trans z))]; exact ⟨h1, h2, h3⟩
theorem NT.put (r : NT H kvs xs) (k : NestedKey) {y : V} {u : Value} (hb : NKey H k b) (ry : RelV y u) : NT H (putK kvs k y) (storedH xs k b u) := by
  have e : (kvs.any fun kv => decide (kv.1 = k)) = (atKey xs k).isSome := by
    rw [valV_any, (r.val k).isSome_eq, Option.isSome_map]
  unfold putK storedH
  rw [e]
  by_cases q : (atKey xs k).isSome = true
  · rw [if_pos q, if_pos q]; exact r.repl k ry
  · rw [if_neg q, if_neg q]; exact Paired.snoc r ⟨rfl, hb, ry⟩
end
section
variable {X : Cx} {pos : Pos}
/-- {} -/
def tDNewN (P : Program) (w : World) : TE := fun _ H Q => ∀ p H', H p = none → Oth [] H H' → H' p ≠ none → DN P w H' p [] → Q (.ref p) H'
theorem pe_dnewN : PE X (.Dict [] [] pos) (tDNewN X.prog X.w) := ⟨fun pins s σ H Q I h => by
  have hn := I.hok.fresh (Nat.le_refl s.heap.objs.size)
  refine wpAny_Dict_empty ⟨.ref s.heap.objs.size, _, I.laid (a := s.heap.objs.size) (o := .ext (NDφ X.prog X.w s.heap.objs.size [])) (t' := s.toks) (fun _ _ q => Heap.get?_push_of_some _ q) (Nat.le_refl _) (ND_ok (Heap.DictOfH.new s.heap)), rfl, h _ _ hn (Oth.new hn) (by rw [upd_same]; exact fun z => nomatch z) ?_⟩
  exact ⟨[], upd_same, Nat.zero_le _, beq_eq_false_iff_ne.mpr (Ne.symm (Nat.ne_of_lt I.big)), .nil⟩⟩
/-- x in d -/
def rInN (P : Program) (w : World) : R2 := fun x y H Q => ∃ b a k kvs, x = .ref b ∧ y = .ref a ∧ NKey H k b ∧ DN P w H a kvs ∧ Q (.bl (valV kvs k).isSome) H
theorem op_inN (hu : X.A.units + 20 < cLine) : OpR X (compareOp .In) (rInN X.prog X.w) := by
  intro pins s σ H x y v u Q I r1 r2 h
  obtain ⟨b, a, k, kvs, rfl, rfl, hk, hd, q⟩ := h
  cases (show v = Value.ref b from r1)
  cases (show u = Value.ref a from r2)
  obtain ⟨xs, z, hs, rel, dd⟩ := hd.open I.hok
  refine wpAny_in_heap (knd := nestedKind X.prog X.w) (by show X.A.units + 1 + 8 < cLine; omega) (hk.ok I.hok) hs dd ?_
  have e := (rel.val k).isSome_eq
  rw [Option.isSome_map] at e
  rw [← e]
  exact ⟨.bl _, H, I.tok _, rfl, q⟩
/-- d[x] -/
def rIxN (P : Program) (w : World) : R2 := fun y x H Q => ∃ b a k kvs v, x = .ref b ∧ y = .ref a ∧ NKey H k b ∧ DN P w H a kvs ∧ valV kvs k = some v ∧ Q v H
theorem n_getItem {pins : List (Addr × Obj)} {σ : L2.St} {H : Hp} {s : Shared} {A : Around} {E : Value → Shared → Prop} {a b : Addr} {kvs : List (NestedKey × V)} {k : NestedKey} {v : V} {Q : Value → Shared → Prop} (hu : A.units + 20 < cLine) (I : Inv X pins σ H s) (hk : NKey H k b) (hd : DN X.prog X.w H a kvs) (hv : valV kvs k = some v)
    (h : ∀ w' s', Inv X pins σ H s' → RelV v w' → Q w' s') : wpAny (model X.prog X.w) A (getItem (.ref a) (.ref b)) Q E s := by
  obtain ⟨xs, z, hs, rel, dd⟩ := hd.open I.hok
  obtain ⟨w', hw, rw'⟩ := RelO.some_of (v := v) (o := (atKey xs k).map (·.2)) (by rw [← hv]; exact rel.val k)
  obtain ⟨p, hp, hp2⟩ := Option.map_eq_some_iff.mp hw
  refine wpAny_getItem_heap (knd := nestedKind X.prog X.w) (by show A.units + 1 + 8 < cLine; omega) (hk.ok I.hok) dd hp ?_
  rw [hp2]
  exact h w' _ (I.tok _) rw'
/-- d[x] = v -/
def rSetN (P : Program) (w : World) : V → V → V → Hp → (Hp → Prop) → Prop := fun o i v H Q => ∃ a b k kvs, o = .ref a ∧ i = .ref b ∧ NKey H k b ∧ DN P w H a kvs ∧ kvs.length < sizeLine ∧
  ∀ H', Oth [a] H H' → DN P w H' a (putK kvs k v) → Q H'
theorem set_nest (hu : X.A.units + 20 < cLine) : PSet X (rSetN X.prog X.w) := by
  intro pins s σ H o i v ov iv u Q I ro ri rv h
  obtain ⟨a, b, k, kvs, rfl, rfl, hk, hd, hl, q⟩ := h
  cases (show ov = Value.ref a from ro)
  cases (show iv = Value.ref b from ri)
  obtain ⟨φ, ea⟩ := hd.is
  obtain ⟨xs, z, hs, rel, dd⟩ := hd.open I.hok
  have hz : xs.length ≤ sizeLine := by rw [← Paired.length rel]; exact z
  refine wpAny_setItem_heap (knd := nestedKind X.prog X.w) (hsz := hz) (by show X.A.units + 1 + 8 < cLine; omega) (hk.ok I.hok) dd fun h' dd' hs' => ?_
  have he : ∃ q, h'.get? a = some q := let ⟨q, _, _, hq, _⟩ := dd'; ⟨q, hq⟩
  have o1 : Oth [a] H (upd H a (.ext (NDφ X.prog X.w a (storedH xs k b u)))) := ⟨fun c o' n e => by rw [upd_ne (fun z => n (by rw [z]; simp))]; exact e, fun c ys e => by rw [upd_ne (ne_of e ea (fun z => nomatch z))]; exact e⟩
  exact ⟨_, d_write I (by rw [ea]; exact True.intro) hs' he (ND_ok dd'), q _ o1 ⟨_, upd_same, by have := length_putK kvs k v; omega, hs, (rel.put k hk rv).oth o1⟩⟩
end
end Pw
namespace Pw
open PySem PySem.Spec PyProof.Rows L2
theorem take_snoc {α : Type} {l : List α} {i : Nat} {x : α} (h : l[i]? = some x) : l.take (i + 1) = l.take i ++ [x] := by
  rw [List.take_add_one, h]
  rfl
theorem IsT.mkI {H : Hp} {a : Addr} {ns : List Int} (e : H a = some (.tup (ns.map V.int))) : IsT H (.tup (ns.map .int)) (.ref a) := .mk e (int_paired ns)
inductive Nm where
  | at (t i : List Int) | key (t : List Int) (v : Int) | part (k : Nat)
deriving DecidableEq
def intsT (ns : List Int) : T := .tup (ns.map .int)
def Nm.toT : Nm → T
  | .at t i => .tup [.str "at", intsT t, intsT i]
  | .key t v => .tup [.str "key", intsT t, .int v]
  | .part k => .tup [.str "part", .int (k : Int)]
theorem nks_ints : ∀ {a b : List Int}, T.nks (a.map .int) = T.nks (b.map .int) → a = b
  | [], [], _ => rfl
  | [], _ :: _, h => by simp [T.nks] at h
  | _ :: _, [], h => by simp [T.nks] at h
  | x :: a, y :: b, h => by
    simp only [List.map_cons, T.nks, T.nk, List.cons.injEq, NestedKey.num.injEq] at h
    rw [h.1, nks_ints h.2]
theorem ints_nk {a b : List Int} (h : (intsT a).nk = (intsT b).nk) : a = b := by
  simp only [intsT, T.nk, NestedKey.tup.injEq] at h
  exact nks_ints h
theorem Nm.nk_inj {a b : Nm} (h : a.toT.nk = b.toT.nk) : a = b := by
  cases a with
  | «at» t i => cases b with
    | «at» t' i' =>
      simp only [Nm.toT, T.nk, T.nks, NestedKey.tup.injEq, List.cons.injEq] at h
      have h1 := ints_nk h.2.1
      have h2 := ints_nk h.2.2.1
      rw [h1, h2]
    | key t' v' => exfalso; simp only [Nm.toT, T.nk, T.nks, NestedKey.tup.injEq, List.cons.injEq, NestedKey.text.injEq] at h; exact absurd h.1 (by decide)
    | part k' => exfalso; simp only [Nm.toT, T.nk, T.nks, NestedKey.tup.injEq, List.cons.injEq, NestedKey.text.injEq] at h; exact absurd h.1 (by decide)
  | key t v => cases b with
    | «at» t' i' => exfalso; simp only [Nm.toT, T.nk, T.nks, NestedKey.tup.injEq, List.cons.injEq, NestedKey.text.injEq] at h; exact absurd h.1 (by decide)
    | key t' v' =>
      simp only [Nm.toT, T.nk, T.nks, NestedKey.tup.injEq, List.cons.injEq, NestedKey.num.injEq] at h
      have h1 := ints_nk h.2.1
      rw [h1, h.2.2.1]
    | part k' => exfalso; simp only [Nm.toT, T.nk, T.nks, NestedKey.tup.injEq, List.cons.injEq, NestedKey.text.injEq] at h; exact absurd h.1 (by decide)
  | part k => cases b with
    | «at» t' i' => exfalso; simp only [Nm.toT, T.nk, T.nks, NestedKey.tup.injEq, List.cons.injEq, NestedKey.text.injEq] at h; exact absurd h.1 (by decide)
    | key t' v' => exfalso; simp only [Nm.toT, T.nk, T.nks, NestedKey.tup.injEq, List.cons.injEq, NestedKey.text.injEq] at h; exact absurd h.1 (by decide)
    | part k' =>
      simp only [Nm.toT, T.nk, T.nks, NestedKey.tup.injEq, List.cons.injEq, NestedKey.num.injEq] at h
      have : k = k' := by omega
      rw [this]
/-! ### a row as it is laid out -/
structure Dr where
  wish : Nm
  other : Nm
  tp : Tp
  idx : Int
def Dr.toT (d : Dr) : T := .tup [d.wish.toT, d.other.toT, d.tp.toT, .int d.idx]
def Tp.key? : Tp → Option E
  | .box _ k _ _ => k
  | .child _ k _ => k
  | _ => none
def keyNm (c : Sc) (addr reps : List Int) : Option E → Nm
  | some e => .key addr (e.val c)
  | none => .at addr reps
def Tp.wish (c : Sc) (addr reps : List Int) : Tp → Nm
  | .part k => .part k
  | t => keyNm c addr reps t.key?
def keyLooks (c : Sc) : Option E → List Int
  | some e => e.looks c
  | none => []
mutual
def Tp.dis1 (c : Sc) (addr reps : List Int) : Tp → List Dr
  | .when e cs os => if e.val c = 0 then Tp.dis c (addr ++ [1]) reps 0 os else Tp.dis c (addr ++ [0]) reps 0 cs
  | .each e cs => (List.range ((e.val c) % 6).toNat).flatMap fun (n : Nat) => Tp.dis { c with index := (n : Int) } addr (reps ++ [(n : Int)]) 0 cs
  | .text s => [⟨.at addr reps, .at addr reps, .text s, c.index⟩]
  | .show e => [⟨.at addr reps, .at addr reps, .show e, c.index⟩]
  | .box tag key act cs => [⟨keyNm c addr reps key, .at addr reps, .box tag key act cs, c.index⟩]
  | .child n key props => [⟨keyNm c addr reps key, .at addr reps, .child n key props, c.index⟩]
  | .part k => [⟨.part k, .at addr reps, .part k, c.index⟩]
  | .input tag cell => [⟨.at addr reps, .at addr reps, .input tag cell, c.index⟩]
def Tp.dis (c : Sc) (before reps : List Int) (k : Nat) : List Tp → List Dr
  | [] => []
  | t :: ts => t.dis1 c (before ++ [(k : Int)]) reps ++ Tp.dis c before reps (k + 1) ts
end
mutual
def Tp.lk1 (c : Sc) : Tp → List Int
  | .when e cs os => e.looks c ++ if e.val c = 0 then Tp.lks c os else Tp.lks c cs
  | .each e cs => e.looks c ++ (List.range ((e.val c) % 6).toNat).flatMap fun (n : Nat) => Tp.lks { c with index := (n : Int) } cs
  | .box _ key _ _ => keyLooks c key
  | .child _ key _ => keyLooks c key
  | _ => []
def Tp.lks (c : Sc) : List Tp → List Int
  | [] => []
  | t :: ts => t.lk1 c ++ Tp.lks c ts
end
theorem Tp.dis_app (c : Sc) (before reps : List Int) : ∀ (a b : List Tp) (k : Nat), Tp.dis c before reps k (a ++ b) = Tp.dis c before reps k a ++ Tp.dis c before reps (k + a.length) b
  | [], b, k => rfl
  | t :: a, b, k => by
    simp only [List.cons_append, Tp.dis, Tp.dis_app c before reps a b, List.append_assoc, List.length_cons]
    rw [show k + 1 + a.length = k + (a.length + 1) by omega]
theorem Tp.lks_app (c : Sc) : ∀ (a b : List Tp), Tp.lks c (a ++ b) = Tp.lks c a ++ Tp.lks c b
  | [], b => rfl
  | t :: a, b => by simp only [List.cons_append, Tp.lks, Tp.lks_app c a b, List.append_assoc]
/-! ### how long rows are -/
theorem E.size_le : ∀ (e : E) (d : Nat), e.depth ≤ d → e.size ≤ 3 ^ d
  | .num _, d, _ | .cell _, d, _ | .prop _, d, _ | .store _, d, _ | .index, d, _ => Nat.one_le_pow d 3 (by decide)
  | .plus a b, d, h | .minus a b, d, h | .same a b, d, h | .less a b, d, h => by
    simp only [E.depth] at h
    obtain ⟨d, rfl⟩ : ∃ n, d = n + 1 := ⟨d - 1, by omega⟩
    have h1 := E.size_le a d (by omega)
    have h2 := E.size_le b d (by omega)
    rw [Nat.pow_succ]
    simp only [E.size]
    omega
  | .ite c a b, d, h => by
    simp only [E.depth] at h
    obtain ⟨d, rfl⟩ : ∃ n, d = n + 1 := ⟨d - 1, by omega⟩
    have h0 := E.size_le c d (by omega)
    have h1 := E.size_le a d (by omega)
    have h2 := E.size_le b d (by omega)
    rw [Nat.pow_succ]
    simp only [E.size]
    omega
def ksz : Option E → Nat
  | some e => e.size
  | none => 0
def psz : List E → Nat
  | [] => 0
  | e :: es => e.size + psz es
mutual
/-- how much a template can give, its expressions told -/
def Tp.wt : Tp → Nat
  | .when e cs os => e.size + Tp.wts cs + Tp.wts os + 1
  | .each e cs => e.size + 5 * Tp.wts cs + 1
  | .box _ key _ cs => ksz key + Tp.wts cs + 1
  | .child _ key props => ksz key + psz props + 1
  | .show e => e.size + 1
  | _ => 1
def Tp.wts : List Tp → Nat
  | [] => 0
  | t :: ts => t.wt + Tp.wts ts
end
theorem wts_app (b : List Tp) : ∀ a : List Tp, Tp.wts (a ++ b) = Tp.wts a + Tp.wts b
  | [] => by simp [Tp.wts]
  | t :: a => by simp only [List.cons_append, Tp.wts, wts_app b a]; omega
theorem wts_mem {t : Tp} : ∀ {ts : List Tp}, t ∈ ts → t.wt ≤ Tp.wts ts
  | u :: ts, h => by
    simp only [Tp.wts]
    rcases List.mem_cons.mp h with rfl | h
    · omega
    · have := wts_mem h; omega
theorem deps_mem {t : Tp} : ∀ {ts : List Tp}, t ∈ ts → t.dep ≤ Tp.deps ts
  | u :: ts, h => by
    simp only [Tp.deps]
    rcases List.mem_cons.mp h with rfl | h
    · omega
    · have := deps_mem h; omega
theorem fines_mem {t : Tp} : ∀ {ts : List Tp}, Tp.Fines ts → t ∈ ts → t.Fine
  | u :: ts, f, h => by
    rcases List.mem_cons.mp h with rfl | h
    · exact f.1
    · exact fines_mem f.2 h
theorem keyLooks_le (c : Sc) : ∀ k : Option E, (keyLooks c k).length ≤ ksz k
  | none => Nat.le_refl _
  | some e => e.looks_le c
theorem mod6 (x : Int) : (x % 6).toNat ≤ 5 := by omega
theorem flat_len {α : Type} {f : Nat → List α} {m : Nat} (h : ∀ n, (f n).length ≤ m) : ∀ r : Nat, ((List.range r).flatMap f).length ≤ r * m
  | 0 => by simp
  | r + 1 => by
    rw [List.range_succ, List.flatMap_append, List.length_append, Nat.succ_mul]
    have := flat_len h r
    have := h r
    simp only [List.flatMap_cons, List.flatMap_nil, List.append_nil]
    omega
mutual
theorem Tp.dis1_len : ∀ (t : Tp) (c : Sc) (addr reps : List Int), (t.dis1 c addr reps).length ≤ t.wt
  | .when e cs os, c, addr, reps => by
    simp only [Tp.dis1, Tp.wt]
    split
    · have := Tp.dis_len os c (addr ++ [1]) reps 0; omega
    · have := Tp.dis_len cs c (addr ++ [0]) reps 0; omega
  | .each e cs, c, addr, reps => by
    simp only [Tp.dis1, Tp.wt]
    have h1 := flat_len (f := fun n : Nat => Tp.dis { c with index := (n : Int) } addr (reps ++ [(n : Int)]) 0 cs) (m := Tp.wts cs) (fun n => Tp.dis_len cs _ _ _ _) ((e.val c) % 6).toNat
    have h2 := Nat.mul_le_mul_right (Tp.wts cs) (mod6 (e.val c))
    omega
  | .text s, c, addr, reps | .show s, c, addr, reps | .box _ _ _ _, c, addr, reps | .child _ _ _, c, addr, reps | .part _, c, addr, reps | .input _ _, c, addr, reps => by simp [Tp.dis1, Tp.wt]
theorem Tp.dis_len : ∀ (ts : List Tp) (c : Sc) (before reps : List Int) (k : Nat), (Tp.dis c before reps k ts).length ≤ Tp.wts ts
  | [], c, before, reps, k => Nat.le_refl _
  | t :: ts, c, before, reps, k => by
    simp only [Tp.dis, Tp.wts, List.length_append]
    have := Tp.dis1_len t c (before ++ [(k : Int)]) reps
    have := Tp.dis_len ts c before reps (k + 1)
    omega
end
mutual
theorem Tp.lk1_len : ∀ (t : Tp) (c : Sc), (t.lk1 c).length ≤ t.wt
  | .when e cs os, c => by
    have := e.looks_le c
    simp only [Tp.lk1, Tp.wt, List.length_append]
    split
    · have := Tp.lks_len os c; omega
    · have := Tp.lks_len cs c; omega
  | .each e cs, c => by
    have := e.looks_le c
    simp only [Tp.lk1, Tp.wt, List.length_append]
    have h1 := flat_len (f := fun n : Nat => Tp.lks { c with index := (n : Int) } cs) (m := Tp.wts cs) (fun n => Tp.lks_len cs _) ((e.val c) % 6).toNat
    have h2 := Nat.mul_le_mul_right (Tp.wts cs) (mod6 (e.val c))
    omega
  | .box _ key _ cs, c => by have := keyLooks_le c key; simp only [Tp.lk1, Tp.wt]; omega
  | .child _ key _, c => by have := keyLooks_le c key; simp only [Tp.lk1, Tp.wt]; omega
  | .text _, c | .show _, c | .part _, c | .input _ _, c => by simp [Tp.lk1]
theorem Tp.lks_len : ∀ (ts : List Tp) (c : Sc), (Tp.lks c ts).length ≤ Tp.wts ts
  | [], c => Nat.le_refl _
  | t :: ts, c => by
    simp only [Tp.lks, Tp.wts, List.length_append]
    have := Tp.lk1_len t c
    have := Tp.lks_len ts c
    omega
end
theorem ksz_le {k : Option E} (h : KeyOk k) : ksz k ≤ 3 := by
  cases k with
  | none => exact Nat.zero_le _
  | some e => exact E.size_le e 1 (h e rfl).1
theorem psz_le : ∀ (es : List E), (∀ e ∈ es, e.depth ≤ 1 ∧ e.Ok) → psz es ≤ 3 * es.length
  | [], _ => Nat.le_refl _
  | e :: es, h => by
    have h1 := E.size_le e 1 (h e List.mem_cons_self).1
    have h2 := psz_le es fun x hx => h x (List.mem_cons_of_mem _ hx)
    simp only [psz, List.length_cons]
    omega
mutual
theorem Tp.wt_le0 {own last : Nat} : ∀ {free : Bool} (t : Tp), t.Ok own last free → t.ech = 0 → t.wt ≤ 10 * t.cnt
  | _, .text _, _, _ | _, .part _, _, _ | _, .input _ _, _, _ => by simp [Tp.wt, Tp.cnt]
  | _, .show e, h, _ => by have := E.size_le e 1 h.1; simp only [Tp.wt, Tp.cnt]; omega
  | _, .box _ key _ cs, h, z => by
    have := ksz_le h.2.1
    have := Tp.wts_le0 cs h.2.2.2 z
    simp only [Tp.wt, Tp.cnt]; omega
  | _, .when e cs os, h, z => by
    simp only [Tp.ech] at z
    have := E.size_le e 1 h.1.1
    have := Tp.wts_le0 cs h.2.1 (by omega)
    have := Tp.wts_le0 os h.2.2 (by omega)
    simp only [Tp.wt, Tp.cnt]; omega
  | _, .each e cs, h, z => by simp [Tp.ech] at z
  | _, .child _ key props, h, _ => by
    have := ksz_le h.2.2.1
    have := psz_le props h.2.2.2.2
    have := h.2.2.2.1
    simp only [Tp.wt, Tp.cnt]; omega
theorem Tp.wts_le0 {own last : Nat} : ∀ {free : Bool} (ts : List Tp), Tp.Oks own last free ts → Tp.echs ts = 0 → Tp.wts ts ≤ 10 * Tp.cnts ts
  | _, [], _, _ => Nat.le_refl _
  | _, t :: ts, h, z => by
    simp only [Tp.echs] at z
    have := Tp.wt_le0 t h.1 (by omega)
    have := Tp.wts_le0 ts h.2 (by omega)
    simp only [Tp.wts, Tp.cnts]; omega
end
mutual
theorem Tp.wt_le {own last : Nat} : ∀ {free : Bool} (t : Tp), t.Ok own last free → t.ech ≤ 1 → t.wt ≤ 50 * t.cnt
  | _, .text _, _, _ | _, .part _, _, _ | _, .input _ _, _, _ => by simp [Tp.wt, Tp.cnt]
  | _, .show e, h, _ => by have := E.size_le e 1 h.1; simp only [Tp.wt, Tp.cnt]; omega
  | _, .box _ key _ cs, h, z => by
    have := ksz_le h.2.1
    have := Tp.wts_le cs h.2.2.2 z
    simp only [Tp.wt, Tp.cnt]; omega
  | _, .when e cs os, h, z => by
    simp only [Tp.ech] at z
    have := E.size_le e 1 h.1.1
    have := Tp.wts_le cs h.2.1 (by omega)
    have := Tp.wts_le os h.2.2 (by omega)
    simp only [Tp.wt, Tp.cnt]; omega
  | _, .each e cs, h, z => by
    simp only [Tp.ech] at z
    have := E.size_le e 3 h.1.1
    have := Tp.wts_le0 cs h.2 (by omega)
    simp only [Tp.wt, Tp.cnt]; omega
  | _, .child _ key props, h, _ => by
    have := ksz_le h.2.2.1
    have := psz_le props h.2.2.2.2
    have := h.2.2.2.1
    simp only [Tp.wt, Tp.cnt]; omega
theorem Tp.wts_le {own last : Nat} : ∀ {free : Bool} (ts : List Tp), Tp.Oks own last free ts → Tp.echs ts ≤ 1 → Tp.wts ts ≤ 50 * Tp.cnts ts
  | _, [], _, _ => Nat.le_refl _
  | _, t :: ts, h, z => by
    simp only [Tp.echs] at z
    have := Tp.wt_le t h.1 (by omega)
    have := Tp.wts_le ts h.2 (by omega)
    simp only [Tp.wts, Tp.cnts]; omega
end
/-! ### names -/
/-- the program's: the wish, unless it is taken -/
def named (tk : List Nm) : List Dr → List (Nm × Tp × Int)
  | [] => []
  | d :: r => let n := if d.wish ∈ tk then d.other else d.wish; (n, d.tp, d.idx) :: named (tk ++ [n]) r
/-- the law's: a part has its name always -/
def lawName (tk : List Nm) (d : Dr) : Nm :=
  match d.wish with
  | .key t v => if Nm.key t v ∈ tk then d.other else .key t v
  | n => n
def lawNamed (tk : List Nm) : List Dr → List (Nm × Tp × Int)
  | [] => []
  | d :: r => (lawName tk d, d.tp, d.idx) :: lawNamed (tk ++ [lawName tk d]) r
theorem lawNamed_app (r : List Dr) : ∀ (tk : List Nm) (a : List Dr), lawNamed tk (a ++ r) = lawNamed tk a ++ lawNamed (tk ++ (lawNamed tk a).map (·.1)) r
  | tk, [] => by simp [lawNamed]
  | tk, d :: a => by
    simp only [List.cons_append, lawNamed, lawNamed_app r, List.map_cons, List.append_assoc, List.nil_append]
theorem lawNamed_len : ∀ (tk : List Nm) (a : List Dr), (lawNamed tk a).length = a.length
  | tk, [] => rfl
  | tk, d :: a => by simp only [lawNamed, List.length_cons, lawNamed_len]
theorem named_app (r : List Dr) : ∀ (tk : List Nm) (a : List Dr), named tk (a ++ r) = named tk a ++ named (tk ++ (named tk a).map (·.1)) r
  | tk, [] => by simp [named]
  | tk, d :: a => by
    simp only [List.cons_append, named, named_app r, List.map_cons, List.append_assoc, List.nil_append]
theorem named_len : ∀ (tk : List Nm) (a : List Dr), (named tk a).length = a.length
  | tk, [] => rfl
  | tk, d :: a => by simp only [named, List.length_cons, named_len]
def Dr.partOf (d : Dr) : List Nat := match d.wish with
  | .part k => [k]
  | _ => []
def partsIn' : List Dr → List Nat
  | [] => []
  | d :: r => d.partOf ++ partsIn' r
theorem partsIn'_app (r : List Dr) : ∀ a : List Dr, partsIn' (a ++ r) = partsIn' a ++ partsIn' r
  | [] => rfl
  | d :: a => by simp only [List.cons_append, partsIn', partsIn'_app r a, List.append_assoc]
/-- what holds of the elements of a row -/
structure Dr.Good (d : Dr) : Prop where
  other : ∃ t i, d.other = .at t i
  wish : d.wish = d.other ∨ (∃ t v, d.wish = .key t v) ∨ ∃ k, d.wish = .part k
structure RowGood (ds : List Dr) : Prop where
  all : ∀ d ∈ ds, d.Good
  others : (ds.map (·.other)).Nodup
  parts : (partsIn' ds).Nodup
/-- both namings are one, and the names are unlike -/
theorem named_eq : ∀ (ds done : List Dr) (tk : List Nm), RowGood (done ++ ds) → tk.Nodup → (∀ t i, Nm.at t i ∈ tk → Nm.at t i ∈ done.map (·.other)) → (∀ k, Nm.part k ∈ tk → k ∈ partsIn' done) →
    named tk ds = lawNamed tk ds ∧ (tk ++ (lawNamed tk ds).map (·.1)).Nodup
  | [], done, tk, g, nd, h1, h2 => ⟨rfl, by simpa [lawNamed] using nd⟩
  | d :: ds, done, tk, g, nd, h1, h2 => by
    have gd := g.all d (by simp)
    obtain ⟨t, i, ho⟩ := gd.other
    have oth : Nm.at t i ∉ tk := fun h => by
      have h3 := h1 _ _ h
      have h4 := g.others
      rw [List.map_append, List.nodup_append] at h4
      exact h4.2.2 _ h3 d.other (by simp) ho.symm
    have pn : ∀ k, d.wish = .part k → Nm.part k ∉ tk := fun k hk h => by
      have h3 := h2 _ h
      have h4 := g.parts
      rw [partsIn'_app, List.nodup_append] at h4
      exact h4.2.2 _ h3 k (by simp [partsIn', Dr.partOf, hk]) rfl
    have e : (if d.wish ∈ tk then d.other else d.wish) = lawName tk d := by
      unfold lawName
      rcases gd.wish with h | ⟨t', v', h⟩ | ⟨k, h⟩
      · rw [h, ho, if_neg oth]
      · rw [h]
      · rw [h, if_neg (pn k h)]
    have nn : lawName tk d ∉ tk := by
      rw [← e]
      split
      · rw [ho]; exact oth
      · assumption
    have a1 : ∀ t' i', Nm.at t' i' = lawName tk d → Nm.at t' i' = d.other := fun t' i' h => by
      rw [← e] at h
      split at h
      · exact h
      · rcases gd.wish with h5 | ⟨t5, v5, h5⟩ | ⟨k, h5⟩
        · rw [h, h5]
        · rw [h5] at h; cases h
        · rw [h5] at h; cases h
    have a2 : ∀ k, Nm.part k = lawName tk d → d.partOf = [k] := fun k h => by
      rw [← e] at h
      split at h
      · rw [ho] at h; cases h
      · simp only [Dr.partOf, ← h]
    obtain ⟨r1, r2⟩ := named_eq ds (done ++ [d]) (tk ++ [lawName tk d]) (by simpa using g) (by
      rw [List.nodup_append]
      exact ⟨nd, by simp, fun a ha b hb => by rw [List.mem_singleton.mp hb]; exact fun z => nn (z ▸ ha)⟩) (fun t' i' h => by
      rcases List.mem_append.mp h with h | h
      · rw [List.map_append]; exact List.mem_append_left _ (h1 _ _ h)
      · rw [List.map_append]; exact List.mem_append_right _ (by rw [a1 t' i' (List.mem_singleton.mp h)]; simp)) (fun k h => by
      rw [partsIn'_app]
      rcases List.mem_append.mp h with h | h
      · exact List.mem_append_left _ (h2 _ h)
      · exact List.mem_append_right _ (by simp [partsIn', a2 k (List.mem_singleton.mp h)]))
    refine ⟨by simp only [named, lawNamed, e, r1], ?_⟩
    simpa [lawNamed] using r2
/-! ### the rows that are laid out are such -/
mutual
theorem Tp.dis1_at : ∀ (t : Tp) (c : Sc) (addr reps : List Int), ∀ d ∈ t.dis1 c addr reps, (∃ u w, d.other = .at (addr ++ u) (reps ++ w)) ∧ d.Good
  | .when e cs os, c, addr, reps, d, h => by
    simp only [Tp.dis1] at h
    split at h
    · obtain ⟨⟨j, u, w, _, e⟩, g⟩ := Tp.dis_at os c (addr ++ [1]) reps 0 d h
      exact ⟨⟨1 :: (j : Int) :: u, w, by rw [e]; simp⟩, g⟩
    · obtain ⟨⟨j, u, w, _, e⟩, g⟩ := Tp.dis_at cs c (addr ++ [0]) reps 0 d h
      exact ⟨⟨0 :: (j : Int) :: u, w, by rw [e]; simp⟩, g⟩
  | .each e cs, c, addr, reps, d, h => by
    simp only [Tp.dis1, List.mem_flatMap] at h
    obtain ⟨n, _, h⟩ := h
    obtain ⟨⟨j, u, w, _, e⟩, g⟩ := Tp.dis_at cs _ addr (reps ++ [(n : Int)]) 0 d h
    exact ⟨⟨(j : Int) :: u, (n : Int) :: w, by rw [e]; simp⟩, g⟩
  | .text _, c, addr, reps, d, h | .show _, c, addr, reps, d, h | .input _ _, c, addr, reps, d, h => by
    simp only [Tp.dis1, List.mem_singleton] at h
    subst h
    exact ⟨⟨[], [], by simp⟩, ⟨_, _, rfl⟩, .inl rfl⟩
  | .part k, c, addr, reps, d, h => by
    simp only [Tp.dis1, List.mem_singleton] at h
    subst h
    exact ⟨⟨[], [], by simp⟩, ⟨_, _, rfl⟩, .inr (.inr ⟨_, rfl⟩)⟩
  | .box _ key _ _, c, addr, reps, d, h | .child _ key _, c, addr, reps, d, h => by
    simp only [Tp.dis1, List.mem_singleton] at h
    subst h
    refine ⟨⟨[], [], by simp⟩, ⟨_, _, rfl⟩, ?_⟩
    cases key with
    | none => exact .inl rfl
    | some e => exact .inr (.inl ⟨_, _, rfl⟩)
theorem Tp.dis_at : ∀ (ts : List Tp) (c : Sc) (before reps : List Int) (k : Nat), ∀ d ∈ Tp.dis c before reps k ts, (∃ (j : Nat) (u w : List Int), k ≤ j ∧ d.other = .at (before ++ (j : Int) :: u) (reps ++ w)) ∧ d.Good
  | [], c, before, reps, k, d, h => nomatch h
  | t :: ts, c, before, reps, k, d, h => by
    simp only [Tp.dis, List.mem_append] at h
    rcases h with h | h
    · obtain ⟨⟨u, w, e⟩, g⟩ := Tp.dis1_at t c (before ++ [(k : Int)]) reps d h
      exact ⟨⟨k, u, w, Nat.le_refl _, by rw [e]; simp⟩, g⟩
    · obtain ⟨⟨j, u, w, l, e⟩, g⟩ := Tp.dis_at ts c before reps (k + 1) d h
      exact ⟨⟨j, u, w, by omega, e⟩, g⟩
end
theorem nodup_flat {α : Type} {f : Nat → List α} (h1 : ∀ n, (f n).Nodup) (h2 : ∀ n m a, a ∈ f n → a ∈ f m → n = m) : ∀ r : Nat, ((List.range r).flatMap f).Nodup
  | 0 => by simp
  | r + 1 => by
    rw [List.range_succ, List.flatMap_append, List.nodup_append]
    refine ⟨nodup_flat h1 h2 r, by simpa using h1 r, fun a ha b hb z => ?_⟩
    subst z
    obtain ⟨n, hn, ha⟩ := List.mem_flatMap.mp ha
    obtain ⟨m, hm, hb⟩ := List.mem_flatMap.mp hb
    have := h2 n m a ha hb
    rw [List.mem_singleton.mp hm] at this
    have := List.mem_range.mp hn
    omega
theorem map_flat {α β : Type} (g : α → β) (f : Nat → List α) (l : List Nat) : (l.flatMap f).map g = l.flatMap fun n => (f n).map g := by
  rw [List.map_flatMap]
mutual
theorem Tp.dis1_nodup : ∀ (t : Tp) (c : Sc) (addr reps : List Int), ((t.dis1 c addr reps).map (·.other)).Nodup
  | .when e cs os, c, addr, reps => by
    simp only [Tp.dis1]
    split
    · exact Tp.dis_nodup os c (addr ++ [1]) reps 0
    · exact Tp.dis_nodup cs c (addr ++ [0]) reps 0
  | .each e cs, c, addr, reps => by
    simp only [Tp.dis1]
    rw [map_flat]
    refine nodup_flat (fun n => Tp.dis_nodup cs _ addr _ 0) (fun n m a ha hb => ?_) _
    obtain ⟨d, hd, rfl⟩ := List.mem_map.mp ha
    obtain ⟨d', hd', e'⟩ := List.mem_map.mp hb
    obtain ⟨⟨j, u, w, _, e1⟩, _⟩ := Tp.dis_at cs _ addr (reps ++ [(n : Int)]) 0 d hd
    obtain ⟨⟨j', u', w', _, e2⟩, _⟩ := Tp.dis_at cs _ addr (reps ++ [(m : Int)]) 0 d' hd'
    rw [e1, e2] at e'
    simp only [Nm.at.injEq, List.append_assoc, List.cons_append, List.nil_append] at e'
    have h := List.append_cancel_left e'.2
    simp only [List.cons.injEq] at h
    omega
  | .text _, c, addr, reps | .show _, c, addr, reps | .input _ _, c, addr, reps | .part _, c, addr, reps | .box _ _ _ _, c, addr, reps | .child _ _ _, c, addr, reps => by simp [Tp.dis1]
theorem Tp.dis_nodup : ∀ (ts : List Tp) (c : Sc) (before reps : List Int) (k : Nat), ((Tp.dis c before reps k ts).map (·.other)).Nodup
  | [], c, before, reps, k => by simp [Tp.dis]
  | t :: ts, c, before, reps, k => by
    simp only [Tp.dis, List.map_append]
    rw [List.nodup_append]
    refine ⟨Tp.dis1_nodup t c _ reps, Tp.dis_nodup ts c before reps (k + 1), fun a ha b hb z => ?_⟩
    subst z
    obtain ⟨d, hd, rfl⟩ := List.mem_map.mp ha
    obtain ⟨d', hd', e'⟩ := List.mem_map.mp hb
    obtain ⟨⟨u, w, e1⟩, _⟩ := Tp.dis1_at t c (before ++ [(k : Int)]) reps d hd
    obtain ⟨⟨j, u', w', l, e2⟩, _⟩ := Tp.dis_at ts c before reps (k + 1) d' hd'
    rw [e1, e2] at e'
    simp only [Nm.at.injEq, List.append_assoc, List.cons_append, List.nil_append] at e'
    have h := List.append_cancel_left e'.1
    simp only [List.cons.injEq] at h
    omega
end
mutual
theorem Tp.dis1_parts {own last : Nat} : ∀ {free : Bool} (t : Tp) (c : Sc) (addr reps : List Int), t.Ok own last free → List.Sublist (partsIn' (t.dis1 c addr reps)) t.pts
  | _, .when e cs os, c, addr, reps, h => by
    simp only [Tp.dis1]
    have h1 := Tp.dis_parts os c (addr ++ [1]) reps 0 h.2.2
    have h2 := Tp.dis_parts cs c (addr ++ [0]) reps 0 h.2.1
    simp only [Tp.pts]
    split
    · exact h1.trans (List.sublist_append_right _ _)
    · exact h2.trans (List.sublist_append_left _ _)
  | _, .each e cs, c, addr, reps, h => by
    simp only [Tp.dis1]
    have z : ∀ n : Nat, partsIn' (Tp.dis { c with index := (n : Int) } addr (reps ++ [(n : Int)]) 0 cs) = [] := fun n => by
      have h1 := Tp.dis_parts cs { c with index := (n : Int) } addr (reps ++ [(n : Int)]) 0 h.2
      rw [Tp.Oks.noparts (free := false) (by simp) cs h.2] at h1
      exact List.sublist_nil.mp h1
    have zz : ∀ l : List Nat, partsIn' (l.flatMap fun n : Nat => Tp.dis { c with index := (n : Int) } addr (reps ++ [(n : Int)]) 0 cs) = [] := fun l => by
      induction l with
      | nil => rfl
      | cons n l ih => rw [List.flatMap_cons, partsIn'_app, z, ih]; rfl
    rw [zz]
    exact List.nil_sublist _
  | _, .text _, c, addr, reps, h | _, .show _, c, addr, reps, h | _, .input _ _, c, addr, reps, h => by simp [Tp.dis1, partsIn', Dr.partOf, Tp.pts]
  | _, .part k, c, addr, reps, h => by simp [Tp.dis1, partsIn', Dr.partOf, Tp.pts]
  | _, .box _ key _ _, c, addr, reps, h => by
    cases key <;> simp [Tp.dis1, partsIn', Dr.partOf, keyNm]
  | _, .child _ key _, c, addr, reps, h => by
    cases key <;> simp [Tp.dis1, partsIn', Dr.partOf, keyNm]
theorem Tp.dis_parts {own last : Nat} : ∀ {free : Bool} (ts : List Tp) (c : Sc) (before reps : List Int) (k : Nat), Tp.Oks own last free ts → List.Sublist (partsIn' (Tp.dis c before reps k ts)) (Tp.ptss ts)
  | _, [], c, before, reps, k, _ => List.Sublist.refl _
  | _, t :: ts, c, before, reps, k, h => by
    simp only [Tp.dis, Tp.ptss]
    rw [partsIn'_app]
    exact (Tp.dis1_parts t c _ reps h.1).append (Tp.dis_parts ts c before reps (k + 1) h.2)
end
theorem dis_good {own last : Nat} {free : Bool} {ts : List Tp} (c : Sc) (h : Tp.Oks own last free ts) (hp : (Tp.ptss ts).Nodup) : RowGood (Tp.dis c [] [] 0 ts) :=
  ⟨fun d hd => (Tp.dis_at ts c [] [] 0 d hd).2, Tp.dis_nodup ts c [] [] 0, (Tp.dis_parts ts c [] [] 0 h).nodup hp⟩
theorem names_eq {own last : Nat} {free : Bool} {ts : List Tp} (c : Sc) (h : Tp.Oks own last free ts) (hp : (Tp.ptss ts).Nodup) :
    named [] (Tp.dis c [] [] 0 ts) = lawNamed [] (Tp.dis c [] [] 0 ts) ∧ ((lawNamed [] (Tp.dis c [] [] 0 ts)).map (·.1)).Nodup := by
  have := named_eq (Tp.dis c [] [] 0 ts) [] [] (dis_good c h hp) (by simp) (by simp) (by simp)
  simpa using this
end Pw
namespace Pw
open PySem PySem.Spec PyProof.Rows L2
mutual
def T.dat : T → PyData
  | .non => .none | .bl b => .bool b | .int i => .int i | .str s => .str s
  | .tup ts => .tuple (T.dats ts)
def T.dats : List T → List PyData
  | [] => []
  | t :: ts => t.dat :: T.dats ts
end
theorem dats_map : ∀ ts : List T, T.dats ts = ts.map T.dat
  | [] => rfl
  | t :: ts => by rw [T.dats, dats_map ts]; rfl
theorem beq_dec {α : Type} [DecidableEq α] [BEq α] [LawfulBEq α] (a b : α) : (a == b) = decide (a = b) := by
  by_cases h : a = b
  · subst h; simp
  · rw [decide_eq_false h]; simpa using h
mutual
theorem eqv_dat : ∀ a b : T, PyData.eqv a.dat b.dat = decide (a.nk = b.nk)
  | .non, b => by cases b <;> simp [T.dat, T.nk, PyData.eqv]
  | .bl x, b => by
    cases b with
    | bl y => cases x <;> cases y <;> rfl
    | int j => simp only [T.dat, T.nk, PyData.eqv, NestedKey.num.injEq]; exact beq_dec _ _
    | _ => simp [T.dat, T.nk, PyData.eqv]
  | .int i, b => by
    cases b with
    | bl y => simp only [T.dat, T.nk, PyData.eqv, NestedKey.num.injEq]; exact beq_dec _ _
    | int j => simp only [T.dat, T.nk, PyData.eqv, NestedKey.num.injEq]; exact beq_dec _ _
    | _ => simp [T.dat, T.nk, PyData.eqv]
  | .str s, b => by
    cases b with
    | str z => simp only [T.dat, T.nk, PyData.eqv, NestedKey.text.injEq]; exact beq_dec _ _
    | _ => simp [T.dat, T.nk, PyData.eqv]
  | .tup ts, b => by
    cases b with
    | tup us => simp only [T.dat, T.nk, PyData.eqv, eqv_dats ts us, NestedKey.tup.injEq]
    | _ => simp [T.dat, T.nk, PyData.eqv]
theorem eqv_dats : ∀ a b : List T, PyData.eqvAll (T.dats a) (T.dats b) = decide (T.nks a = T.nks b)
  | [], [] => rfl
  | [], _ :: _ => by simp [T.dats, T.nks, PyData.eqvAll]
  | _ :: _, [] => by simp [T.dats, T.nks, PyData.eqvAll]
  | x :: a, y :: b => by
    simp only [T.dats, T.nks, PyData.eqvAll, eqv_dat x y, eqv_dats a b, List.cons.injEq, Bool.decide_and]
end
section
variable {K : PySem.W.Frag} {H : Hp}
theorem dpAll_of {ts : List T} {xs : List V} (p : Paired (Dp K H) xs (ts.map T.dat)) : DpAll K H xs (ts.map T.dat) := by
  generalize ts.map T.dat = ds at p
  induction p with
  | nil => exact .nil
  | cons r _ ih => exact .cons r ih
theorem pair_dp : ∀ {ts : List T} {xs : List V}, xs.length = ts.length → (∀ (i : Nat) (t : T) (x : V), ts[i]? = some t → xs[i]? = some x → Dp K H x t.dat) → DpAll K H xs (T.dats ts)
  | [], [], _, _ => .nil
  | [], _ :: _, l, _ => by cases l
  | _ :: _, [], l, _ => by cases l
  | t :: ts, x :: xs, l, h => .cons (h 0 t x rfl rfl) (pair_dp (Nat.succ.inj l) fun i t' x' e1 e2 => h (i + 1) t' x' e1 e2)
theorem IsT.dp {t : T} {v : V} (h : IsT H t v) : Dp K H v t.dat := by
  induction h with
  | non => exact .non
  | bl b => exact .bl b
  | int i => exact .int i
  | str s => exact .str s
  | tup e l _ ih => exact .tup (SqT.of e) (pair_dp l ih)
theorem paired_dp : ∀ {ts : List T} {xs : List V}, Paired (IsT H) ts xs → DpAll K H xs (T.dats ts)
  | _, _, .nil => .nil
  | _, _, .cons r q => .cons r.dp (paired_dp q)
end
mutual
theorem dep_depth : ∀ {n : Nat} (t : T), Dep n t → t.dat.depth ≤ n
  | _, .non, h => Nat.zero_le _
  | _, .bl _, h => Nat.zero_le _
  | _, .int _, h => Nat.zero_le _
  | _, .str _, h => Nat.zero_le _
  | _, .tup ts, h => by
    cases h with
    | tup n _ _ q =>
      simp only [T.dat, PyData.depth]
      exact Nat.succ_le_succ (deps_depth ts q)
theorem deps_depth : ∀ {n : Nat} (ts : List T), (∀ t ∈ ts, Dep n t) → PyData.depthAll (T.dats ts) ≤ n
  | _, [], _ => Nat.zero_le _
  | n, t :: ts, h => by
    simp only [T.dats, PyData.depthAll]
    exact Nat.max_le.mpr ⟨dep_depth t (h t List.mem_cons_self), deps_depth ts fun u hu => h u (List.mem_cons_of_mem _ hu)⟩
end
mutual
/-- its texts are texts of Python -/
def T.sok : T → Bool
  | .str s => PyData.strOk s
  | .tup ts => T.soks ts
  | _ => true
def T.soks : List T → Bool
  | [] => true
  | t :: ts => t.sok && T.soks ts
end
mutual
theorem can_dat : ∀ t : T, t.sok = true → t.dat.canLay0 = true
  | .non, _ => rfl
  | .bl _, _ => rfl
  | .int _, _ => rfl
  | .str _, h => h
  | .tup ts, h => can_dats ts h
theorem can_dats : ∀ ts : List T, T.soks ts = true → PyData.canLayAll0 (T.dats ts) = true
  | [], _ => rfl
  | t :: ts, h => by
    simp only [T.soks, Bool.and_eq_true] at h
    simp only [T.dats, PyData.canLayAll0, can_dat t h.1, can_dats ts h.2, Bool.and_self]
end
/-- data that == and in may look at -/
structure T.Eqb (t : T) : Prop where
  d : Dep 60 t
  s : t.sok = true
theorem soks_of : ∀ {ts : List T}, (∀ t ∈ ts, t.Eqb) → T.soks ts = true
  | [], _ => rfl
  | t :: ts, h => by simp only [T.soks, (h t List.mem_cons_self).s, soks_of fun u hu => h u (List.mem_cons_of_mem _ hu), Bool.and_self]
theorem shaped_dat {t : T} (h : t.Eqb) : SeqAt.shaped t.dat = true := by
  unfold SeqAt.shaped
  rw [can_dat t h.s, Bool.true_and, decide_eq_true]
  have := dep_depth t h.d
  omega
theorem shaped_list {ts : List T} (h : ∀ t ∈ ts, t.Eqb) : SeqAt.shaped (.list (T.dats ts)) = true := by
  unfold SeqAt.shaped
  have := deps_depth ts fun t ht => (h t ht).d
  rw [decide_eq_true (by simp only [PyData.depth]; omega)]
  simp only [PyData.canLay0, can_dats ts (soks_of h), Bool.and_self]
def rInT (K : PySem.W.Frag) (neg : Bool) : R2 := fun x y H Q => ∃ (t : T) (ts : List T) (a : Addr) (xs : List V), IsT H t x ∧ y = .ref a ∧ SqL K H a xs ∧ Paired (IsT H) ts xs ∧ t.Eqb ∧ (∀ u ∈ ts, u.Eqb) ∧ Q (.bl (if neg then !decide (t.nk ∈ ts.map T.nk) else decide (t.nk ∈ ts.map T.nk))) H
theorem any_dats (t : T) : ∀ ts : List T, ((T.dats ts).any fun z => PyData.eqv z t.dat) = decide (t.nk ∈ ts.map T.nk)
  | [] => by simp [T.dats]
  | u :: ts => by
    rw [T.dats, List.any_cons, any_dats t ts, eqv_dat]
    simp only [List.map_cons, List.mem_cons, Bool.decide_or]
    congr 1
    exact decide_eq_decide.mpr ⟨fun h => h.symm, fun h => h.symm⟩
section
variable {X : Cx}
theorem op_inT (hu : X.A.units + 65 < cLine) : OpR X (compareOp .In) (rInT X.K false) := by
  intro pins s σ H x y v u Q I rx ry h
  obtain ⟨t, ts, a, xs, it, rfl, hs, hp, dt, dts, q⟩ := h
  refine op_inD hu pins s σ H _ _ v u Q I rx ry ⟨_, T.dats ts, it.dp, .lst hs (paired_dp hp), shaped_dat dt, shaped_list dts, ?_⟩
  rw [any_dats]
  exact q
theorem op_notInT (hu : X.A.units + 65 < cLine) : OpR X (compareOp .NotIn) (rInT X.K true) := by
  intro pins s σ H x y v u Q I rx ry h
  obtain ⟨t, ts, a, xs, it, rfl, hs, hp, dt, dts, q⟩ := h
  refine op_notInD hu pins s σ H _ _ v u Q I rx ry ⟨_, T.dats ts, it.dp, .lst hs (paired_dp hp), shaped_dat dt, shaped_list dts, ?_⟩
  rw [any_dats]
  exact q
def rEqT (neg : Bool) : R2 := fun x y H Q => ∃ t u : T, IsT H t x ∧ IsT H u y ∧ t.Eqb ∧ u.Eqb ∧ Q (.bl (if neg then !decide (t.nk = u.nk) else decide (t.nk = u.nk))) H
theorem op_eqT (hu : X.A.units + 65 < cLine) : OpR X (compareOp .Eq) (rEqT false) := by
  intro pins s σ H x y v u Q I rx ry h
  obtain ⟨t, t2, it, it2, dt, dt2, q⟩ := h
  refine op_eqD (by omega) pins s σ H _ _ v u Q I rx ry ⟨_, _, it.dp, it2.dp, shaped_dat dt, shaped_dat dt2, ?_⟩
  rw [eqv_dat]
  exact q
theorem op_neT (hu : X.A.units + 65 < cLine) : OpR X (compareOp .NotEq) (rEqT true) := by
  intro pins s σ H x y v u Q I rx ry h
  obtain ⟨t, t2, it, it2, dt, dt2, q⟩ := h
  refine op_neD (by omega) pins s σ H _ _ v u Q I rx ry ⟨_, _, it.dp, it2.dp, shaped_dat dt, shaped_dat dt2, ?_⟩
  rw [eqv_dat]
  exact q
end
end Pw
namespace Pw
open PySem PySem.Spec PyProof.Rows L2
theorem sl_take {K : PySem.W.Frag} {H : Hp} {a : Addr} {xs : List V} {n : Nat} {Q : VK} (ha : H a = some (.tup xs)) (q : ∀ (c : Addr) (H' : Hp), Oth [] H H' → H' c = some (.tup (xs.take n)) → Q (.ref c) H') : rSlA K (.ref a) none (some (n : Int)) H Q := by
  refine ⟨a, xs, rfl, SqT.of ha, fun h => ?_, fun h p hp => ?_⟩
  · have z := h.2
    rw [HT.sIx_nat] at z
    exact q a H Oth.refl (by rw [List.take_of_length_le (by omega)]; exact ha)
  · refine q p _ (Oth.new hp) ?_
    rw [upd_same]
    unfold cutV
    rw [HT.sIx_none, HT.sIx_nat, List.drop_zero, Nat.sub_zero]
    by_cases c : n ≤ xs.length
    · rw [Nat.min_eq_left c]
    · rw [Nat.min_eq_right (by omega), List.take_of_length_le (Nat.le_refl _), List.take_of_length_le (by omega)]
theorem sl_drop {K : PySem.W.Frag} {H : Hp} {a : Addr} {xs : List V} {n : Nat} {Q : VK} (ha : H a = some (.tup xs)) (hn : n ≤ xs.length) (q : ∀ (c : Addr) (H' : Hp), Oth [] H H' → H' c = some (.tup (xs.drop n)) → Q (.ref c) H') : rSlA K (.ref a) (some (n : Int)) none H Q := by
  refine ⟨a, xs, rfl, SqT.of ha, fun h => ?_, fun h p hp => ?_⟩
  · have z := h.1
    rw [HT.sIx_nat] at z
    have : n = 0 := by omega
    subst this
    exact q a H Oth.refl (by rw [List.drop_zero]; exact ha)
  · refine q p _ (Oth.new hp) ?_
    rw [upd_same]
    unfold cutV
    rw [HT.sIx_none, HT.sIx_nat, Nat.min_eq_left hn]
    rw [List.take_of_length_le (by rw [List.length_drop]; omega)]
theorem paired_take {H : Hp} : ∀ {ts : List T} {xs : List V}, Paired (IsT H) ts xs → ∀ n, Paired (IsT H) (ts.take n) (xs.take n)
  | _, _, .nil, n => by rw [List.take_nil, List.take_nil]; exact .nil
  | _, _, .cons h t, 0 => .nil
  | _, _, .cons h t, n + 1 => .cons h (paired_take t n)
/-- every template is a tuple that begins with its kind -/
def Tp.kind : Tp → Str
  | .text _ => "text" | .show _ => "show" | .box .. => "box" | .when .. => "when" | .each .. => "each" | .child .. => "child" | .part _ => "part" | .input .. => "input"
theorem Tp.kindAt {H : Hp} {v : V} : ∀ (t : Tp), IsT H t.toT v → ∃ a r, v = .ref a ∧ H a = some (.tup (.str t.kind :: r))
  | .text _, h => by obtain ⟨a, _, x, rfl, e, p, _⟩ := IsT.inv2 h; rw [p.of_str] at e; exact ⟨a, _, rfl, e⟩
  | .show _, h => by obtain ⟨a, _, x, rfl, e, p, _⟩ := IsT.inv2 h; rw [p.of_str] at e; exact ⟨a, _, rfl, e⟩
  | .box .., h => by obtain ⟨a, _, x, y, z, u, rfl, e, p, _⟩ := IsT.inv5 h; rw [p.of_str] at e; exact ⟨a, _, rfl, e⟩
  | .when .., h => by obtain ⟨a, _, x, y, z, rfl, e, p, _⟩ := IsT.inv4 h; rw [p.of_str] at e; exact ⟨a, _, rfl, e⟩
  | .each .., h => by obtain ⟨a, _, x, y, rfl, e, p, _⟩ := IsT.inv3 h; rw [p.of_str] at e; exact ⟨a, _, rfl, e⟩
  | .child .., h => by obtain ⟨a, _, x, y, z, rfl, e, p, _⟩ := IsT.inv4 h; rw [p.of_str] at e; exact ⟨a, _, rfl, e⟩
  | .part _, h => by obtain ⟨a, _, x, rfl, e, p, _⟩ := IsT.inv2 h; rw [p.of_str] at e; exact ⟨a, _, rfl, e⟩
  | .input .., h => by obtain ⟨a, _, x, y, rfl, e, p, _⟩ := IsT.inv3 h; rw [p.of_str] at e; exact ⟨a, _, rfl, e⟩
/-- when and each are no nodes -/
def Tp.node : Tp → Bool
  | .when .. => false | .each .. => false | _ => true
theorem Tp.dis1_node (t : Tp) (h : t.node = true) (c : Sc) (addr reps : List Int) : t.dis1 c addr reps = [⟨t.wish c addr reps, .at addr reps, t, c.index⟩] ∧ t.lk1 c = keyLooks c t.key? := by
  cases t <;> first | exact ⟨rfl, rfl⟩ | cases h
def Nm.short : Nm → Prop
  | .at t i => t.length ≤ 1000 ∧ i.length ≤ 1000
  | .key t _ => t.length ≤ 1000
  | .part _ => True
theorem ints_dep {ns : List Int} (h : ns.length ≤ 1000) (n : Nat) : Dep (n + 2) (intsT ns) := by
  refine .tup _ _ (by rw [List.length_map]; omega) fun t ht => ?_
  obtain ⟨i, _, rfl⟩ := List.mem_map.mp ht
  exact .int _ _
theorem Nm.dep {n : Nm} (h : n.short) (k : Nat) : Dep (k + 3) n.toT := by
  cases n with
  | «at» t i => exact .tup _ _ (by simp) (by simp only [List.mem_cons, List.not_mem_nil, or_false, forall_eq_or_imp, forall_eq]; exact ⟨.str _ _, ints_dep h.1 _, ints_dep h.2 _⟩)
  | key t v => exact .tup _ _ (by simp) (by simp only [List.mem_cons, List.not_mem_nil, or_false, forall_eq_or_imp, forall_eq]; exact ⟨.str _ _, ints_dep h _, .int _ _⟩)
  | part k => exact .tup _ _ (by simp) (by simp only [List.mem_cons, List.not_mem_nil, or_false, forall_eq_or_imp, forall_eq]; exact ⟨.str _ _, .int _ _⟩)
theorem ints_sok : ∀ ns : List Int, T.soks (ns.map .int) = true
  | [] => rfl
  | n :: ns => by simp only [List.map_cons, T.soks, ints_sok ns]; rfl
theorem Nm.sok (n : Nm) : n.toT.sok = true := by
  cases n with
  | «at» t i => simp only [Nm.toT, intsT, T.sok, T.soks, ints_sok]; decide +kernel
  | key t v => simp only [Nm.toT, intsT, T.sok, T.soks, ints_sok]; decide +kernel
  | part k => simp only [Nm.toT, T.sok, T.soks]; decide +kernel
theorem Nm.eqb {n : Nm} (h : n.short) : n.toT.Eqb := ⟨n.dep h 57, n.sok⟩
theorem nk_depths_int : ∀ ns : List Int, NestedKey.depthAll (T.nks (ns.map .int)) = 0
  | [] => rfl
  | n :: ns => by simp only [List.map_cons, T.nks, T.nk, NestedKey.depthAll, NestedKey.depth, nk_depths_int ns]; rfl
theorem Nm.nk_depth (n : Nm) : n.toT.nk.depth ≤ 8 := by
  cases n <;> simp [Nm.toT, intsT, T.nk, T.nks, NestedKey.depth, NestedKey.depthAll, nk_depths_int]
theorem Nm.nk_ref {H : Hp} {n : Nm} {v : V} (h : IsT H n.toT v) : ∃ b, v = .ref b ∧ NKey H n.toT.nk b := by
  have z := h
  cases n with
  | «at» t i => obtain ⟨b, xs, rfl, _⟩ := h.inv; exact ⟨b, rfl, _, rfl, z, Nm.nk_depth _⟩
  | key t i => obtain ⟨b, xs, rfl, _⟩ := h.inv; exact ⟨b, rfl, _, rfl, z, Nm.nk_depth _⟩
  | part t => obtain ⟨b, xs, rfl, _⟩ := h.inv; exact ⟨b, rfl, _, rfl, z, Nm.nk_depth _⟩
theorem mem_nks {n : Nm} {tk : List Nm} : (n.toT.nk ∈ (tk.map Nm.toT).map T.nk) ↔ n ∈ tk := by
  rw [List.map_map]
  constructor
  · intro h
    obtain ⟨m, hm, e⟩ := List.mem_map.mp h
    rw [← Nm.nk_inj e]
    exact hm
  · intro h
    exact List.mem_map.mpr ⟨n, h, rfl⟩
def spByKey : Sp := fun vs H Q _ => ∃ (key : Option E) (c : Sc) (addr reps : List Int) (vk vo vc : V) (l : Addr) (L : List V), vs = [vk, vo, vc, .ref l] ∧ IsT H (keyT key) vk ∧ IsT H (Nm.at addr reps).toT vo ∧ IsT H c.toT vc ∧ H l = some (.lst L) ∧
  (∀ e ∈ key, e.depth ≤ 3) ∧ L.length + ksz key ≤ 100000 ∧
  ∀ v H', IsT H' (keyNm c addr reps key).toT v → H' l = some (.lst (L ++ (keyLooks c key).map V.int)) → Oth [l] H H' → Q v H'
def spWished : Sp := fun vs H Q _ => ∃ (t : Tp) (c : Sc) (addr reps : List Int) (vt vo vc : V) (l : Addr) (L : List V), vs = [vt, vo, vc, .ref l] ∧ IsT H t.toT vt ∧ t.node = true ∧ IsT H (Nm.at addr reps).toT vo ∧ IsT H c.toT vc ∧ H l = some (.lst L) ∧
  t.Fine ∧ L.length + t.wt ≤ 100000 ∧
  ∀ v H', IsT H' (t.wish c addr reps).toT v → H' l = some (.lst (L ++ (keyLooks c t.key?).map V.int)) → Oth [l] H H' → Q v H'
def spDis (n : Nat) : Sp := fun vs H Q _ => ∃ (ts : List Tp) (c : Sc) (be re : List Int) (vt vb vr vc : V) (l : Addr) (L : List V), vs = [vt, vb, vr, vc, .ref l] ∧ IsT H (.tup (Tp.toTs ts)) vt ∧ IsT H (intsT be) vb ∧ IsT H (intsT re) vr ∧ IsT H c.toT vc ∧ H l = some (.lst L) ∧
  Tp.deps ts < n ∧ Tp.Fines ts ∧ L.length + Tp.wts ts ≤ 50000 ∧ be.length + 2 * n ≤ 1000 ∧ re.length + n ≤ 1000 ∧
  ∀ (p : Addr) (H' : Hp) (rs : List V), H p = none → H' p = some (.lst rs) → Paired (IsT H') ((Tp.dis c be re 0 ts).map Dr.toT) rs → H' l = some (.lst (L ++ (Tp.lks c ts).map V.int)) → Oth [l] H H' → Q (.ref p) H'
def itemT (x : Nm × Tp × Int) : T := .tup [x.1.toT, x.2.1.toT, .int x.2.2]
def spLayOut (n : Nat) : Sp := fun vs H Q _ => ∃ (ts : List Tp) (c : Sc) (vt vc : V) (l : Addr) (L : List V), vs = [vt, vc, .ref l] ∧ IsT H (.tup (Tp.toTs ts)) vt ∧ IsT H c.toT vc ∧ H l = some (.lst L) ∧
  Tp.deps ts < n ∧ Tp.Fines ts ∧ L.length + Tp.wts ts ≤ 50000 ∧
  ∀ (v : V) (H' : Hp), IsT H' (.tup ((named [] (Tp.dis c [] [] 0 ts)).map itemT)) v → H' l = some (.lst (L ++ (Tp.lks c ts).map V.int)) → Oth [l] H H' → Q v H'
def prefT (ts : List T) : T := .tup ((List.range ts.length).map fun k => .tup (ts.take k))
def spPartsOf : Sp := fun vs H Q _ => ∃ (ts : List T) (v : V), vs = [v] ∧ IsT H (.tup ts) v ∧ ts.length ≤ 1000 ∧
  ∀ r H', IsT H' (prefT ts) r → Oth [] H H' → Q r H'
/-- what is taken stands in the dict -/
def Takes' (kvs : List (NestedKey × V)) (tk : List Nm) : Prop := ∀ n : Nm, (valV kvs n.toT.nk).isSome = decide (n ∈ tk)
theorem Takes'.put {kvs : List (NestedKey × V)} {tk : List Nm} (h : Takes' kvs tk) (n : Nm) (v : V) : Takes' (putK kvs n.toT.nk v) (tk ++ [n]) := fun m => by
  rw [valV_put]
  by_cases e : m.toT.nk = n.toT.nk
  · rw [if_pos e, Nm.nk_inj e]
    simp
  · rw [if_neg e, h m]
    have : m ≠ n := fun z => e (by rw [z])
    simp [this]
end Pw
namespace Pw
open PySem PySem.Spec PyProof.Rows L2
theorem wts_take {ts : List Tp} {i : Nat} {t : Tp} (h : ts[i]? = some t) : Tp.wts (ts.take i) + t.wt ≤ Tp.wts ts := by
  have hi : i < ts.length := (List.getElem?_eq_some_iff.mp h).1
  have e3 : t = ts[i] := by rw [List.getElem?_eq_getElem hi] at h; exact (Option.some.inj h).symm
  have e1 : ts = ts.take i ++ t :: ts.drop (i + 1) := by rw [e3, ← List.drop_eq_getElem_cons hi, List.take_append_drop]
  have e4 := congrArg Tp.wts e1
  rw [wts_app, Tp.wts] at e4
  omega
theorem node_kind {t : Tp} (h : t.node = true) : ("when" : Str) ≠ t.kind ∧ ("each" : Str) ≠ t.kind := by
  cases t <;> first | (exact Bool.noConfusion h) | exact ⟨by simp only [Tp.kind]; decide, by simp only [Tp.kind]; decide⟩
theorem Sc.parts {H : Hp} {c : Sc} {v : V} (h : IsT H c.toT v) : ∃ sc ac ap as, v = .ref sc ∧ H sc = some (.tup [.str "scope", .ref ac, .ref ap, .ref as, .int c.index]) ∧ H ac = some (.tup (c.cells.map V.int)) ∧ H ap = some (.tup (c.props.map V.int)) ∧ H as = some (.tup (c.store.map V.int)) := by
  obtain ⟨sc, _, v1, v2, v3, _, rfl, hsc, r0, r1, r2, r3, r4⟩ := IsT.inv5 h
  obtain rfl := r0.of_str
  obtain rfl := r4.of_int
  obtain ⟨ac, rfl, hac⟩ := r1.ints
  obtain ⟨ap, rfl, hap⟩ := r2.ints
  obtain ⟨as, rfl, has⟩ := r3.ints
  exact ⟨sc, ac, ap, as, rfl, hsc, hac, hap, has⟩
theorem Sc.mk' {H : Hp} {c : Sc} {sc ac ap as : Addr} (hsc : H sc = some (.tup [.str "scope", .ref ac, .ref ap, .ref as, .int c.index])) (hac : H ac = some (.tup (c.cells.map V.int))) (hap : H ap = some (.tup (c.props.map V.int))) (has : H as = some (.tup (c.store.map V.int))) : IsT H c.toT (.ref sc) :=
  .mk5 hsc (.str _) (.mkI hac) (.mkI hap) (.mkI has) (.int _)
theorem flat_succ {α : Type} (f : Nat → List α) (j : Nat) : (List.range (j + 1)).flatMap f = (List.range j).flatMap f ++ f j := by
  rw [List.range_succ, List.flatMap_append]
  simp
theorem dis_take {c : Sc} {be re : List Int} {ts : List Tp} {i : Nat} {t : Tp} (h : ts[i]? = some t) : Tp.dis c be re 0 (ts.take (i + 1)) = Tp.dis c be re 0 (ts.take i) ++ t.dis1 c (be ++ [(i : Int)]) re := by
  have hi : i < ts.length := (List.getElem?_eq_some_iff.mp h).1
  rw [take_snoc h, Tp.dis_app]
  have hl : (ts.take i).length = i := by rw [List.length_take]; omega
  simp only [Tp.dis, List.append_nil, hl, Nat.zero_add]
theorem lks_take {c : Sc} {ts : List Tp} {i : Nat} {t : Tp} (h : ts[i]? = some t) : Tp.lks c (ts.take (i + 1)) = Tp.lks c (ts.take i) ++ t.lk1 c := by
  rw [take_snoc h, Tp.lks_app]
  simp only [Tp.lks, List.append_nil]
theorem take_map {α β : Type} {f : α → β} {l : List α} {i : Nat} {x : β} (h : (l.map f)[i]? = some x) : ∃ u, l[i]? = some u ∧ f u = x := by
  rw [List.getElem?_map] at h
  cases g : l[i]? with
  | none => rw [g] at h; cases h
  | some u => rw [g] at h; exact ⟨u, rfl, Option.some.inj h⟩
theorem ifx {b : Bool} {σ : L2.St} {H : Hp} {Q : VK} {i j : Nat} {v1 v2 : V} (h1 : σ[i]? = some (some v1)) (h2 : σ[j]? = some (some v2)) (q : Q (if b = true then v1 else v2) H) : if b = true then tVar i σ H Q else tVar j σ H Q := by
  cases b with
  | true => exact iteT ⟨_, h1, q⟩
  | false => exact iteF ⟨_, h2, q⟩
theorem named_take {ds : List Dr} {i : Nat} {d : Dr} (h : ds[i]? = some d) : named [] (ds.take (i + 1)) = named [] (ds.take i) ++ [(if d.wish ∈ (named [] (ds.take i)).map (·.1) then d.other else d.wish, d.tp, d.idx)] := by
  rw [take_snoc h, named_app]
  simp [named]
theorem wt_pos (t : Tp) : 1 ≤ t.wt := by cases t <;> simp [Tp.wt]
theorem wts_len : ∀ ts : List Tp, ts.length ≤ Tp.wts ts
  | [] => Nat.le_refl _
  | t :: ts => by have := wt_pos t; have := wts_len ts; simp only [List.length_cons, Tp.wts]; omega
theorem Room.units65 {k : Nat} {A : Around} (r : Room k A) : A.units + 65 < cLine := by have := r.un; omega
end Pw
namespace Pw
open PySem PySem.Spec PyProof.Rows L2
def LItem (H : Hp) (x : Nm × Tp × Int) (v : V) : Prop := ∃ a n r, v = .ref a ∧ H a = some (.lst [n, r, .int x.2.2]) ∧ IsT H x.1.toT n ∧ IsT H x.2.1.toT r
def Fresh (H : Hp) (vs : List V) : Prop := ∀ v ∈ vs, ∃ a, v = .ref a ∧ H a = none
abbrev LItems (H : Hp) : List (Nm × Tp × Int) → List V → Prop := Paired (LItem H)
theorem LItem.oth {H H' : Hp} {S : List Addr} {x : Nm × Tp × Int} {v : V} (h : LItem H x v) (o : Oth S H H') (hn : ∀ a ∈ S, v ≠ .ref a) : LItem H' x v := by
  obtain ⟨a, n, r, rfl, e, i1, i2⟩ := h
  exact ⟨a, n, r, rfl, o.keep a _ (fun z => hn a z rfl) e, i1.oth o, i2.oth o⟩
theorem LItems.oth {H H' : Hp} {S : List Addr} (o : Oth S H H') : ∀ {xs : List (Nm × Tp × Int)} {vs : List V}, LItems H xs vs → (∀ v ∈ vs, ∀ a ∈ S, v ≠ .ref a) → LItems H' xs vs
  | _, _, .nil, _ => .nil
  | _, _, .cons h t, hn => .cons (h.oth o (hn _ List.mem_cons_self)) (LItems.oth o t fun v hv => hn v (List.mem_cons_of_mem _ hv))
theorem LItems.len {H : Hp} : ∀ {xs : List (Nm × Tp × Int)} {vs : List V}, LItems H xs vs → vs.length = xs.length
  | _, _, .nil => rfl
  | _, _, .cons _ t => congrArg (· + 1) (LItems.len t)
theorem LItems.get {H : Hp} : ∀ {xs : List (Nm × Tp × Int)} {vs : List V}, LItems H xs vs → ∀ {i : Nat} {v : V}, vs[i]? = some v → ∃ x, xs[i]? = some x ∧ LItem H x v
  | _, _, .cons h t, 0, v, e => by cases e; exact ⟨_, rfl, h⟩
  | _, _, .cons h t, i + 1, v, e => LItems.get t e
theorem Fresh.ne {H : Hp} {vs : List V} {b : Addr} {o : HO} (h : Fresh H vs) (hb : H b = some o) : ∀ v ∈ vs, v ≠ .ref b := fun v hv z => by
  obtain ⟨a, rfl, e⟩ := h v hv
  cases z
  rw [hb] at e
  cases e
theorem LItems.ne_self {H : Hp} {xs : List (Nm × Tp × Int)} {vs : List V} {r : Addr} {H0 : Hp} (h : LItems H xs vs) (hr : H r = some (.lst vs)) (f : Fresh H0 vs) : ∀ v ∈ vs, v ≠ .ref r := fun v hv z => by
  subst z
  obtain ⟨i, hi, e⟩ := List.getElem_of_mem hv
  obtain ⟨x, _, a, n, q, ea, e2, _⟩ := h.get (List.getElem?_eq_getElem hi |>.trans (by rw [e]))
  cases ea
  rw [hr] at e2
  injection e2 with e2
  injection e2 with e2
  obtain ⟨a, ha, _⟩ := f (.int x.2.2) (by rw [e2]; simp)
  cases ha
theorem names_app (tk : List Nm) (a r : List Dr) : tk ++ (lawNamed tk (a ++ r)).map (·.1) = tk ++ (lawNamed tk a).map (·.1) ++ (lawNamed (tk ++ (lawNamed tk a).map (·.1)) r).map (·.1) := by
  rw [lawNamed_app, List.map_append, List.append_assoc]
structure LSt (H : Hp) (l nl : Addr) (L : List V) (tk : List Nm) (H1 : Hp) (r : Addr) (ds : List Dr) (lk : List Int) : Prop where
  rn : H r = none
  o : Oth [l, nl] H H1
  ex : ∃ rs nL, H1 r = some (.lst rs) ∧ Fresh H rs ∧ LItems H1 (lawNamed tk ds) rs ∧ H1 nl = some (.lst nL) ∧ Paired (IsT H1) ((tk ++ (lawNamed tk ds).map (·.1)).map Nm.toT) nL
  lk : H1 l = some (.lst (L ++ lk.map V.int))
  sh : ∀ n ∈ tk ++ (lawNamed tk ds).map (·.1), n.short
section
variable {H H1 H2 H3 : Hp} {l nl r p q : Addr} {L : List V} {tk : List Nm} {ds ds2 : List Dr} {lk lk2 : List Int}
theorem LSt.ln (s : LSt H l nl L tk H1 r ds lk) (hl : H l ≠ none) : r ≠ l := fun e => hl (e ▸ s.rn)
theorem LSt.nn (s : LSt H l nl L tk H1 r ds lk) (hl : H nl ≠ none) : r ≠ nl := fun e => hl (e ▸ s.rn)
theorem LSt.back (s : LSt H l nl L tk H1 r ds lk) {a : Addr} (h : H1 a = none) : H a = none := by
  obtain ⟨rs, nL, _, _, _, e, _⟩ := s.ex
  cases h' : H a with
  | none => rfl
  | some o =>
    by_cases z : a ∈ [l, nl]
    · simp only [List.mem_cons, List.not_mem_nil, or_false] at z
      rcases z with rfl | rfl
      · rw [s.lk] at h; cases h
      · rw [e] at h; cases h
    · rw [s.o.keep a o z h'] at h; cases h
theorem LSt.oth (s : LSt H l nl L tk H1 r ds lk) (o : Oth [] H1 H2) : LSt H l nl L tk H2 r ds lk := by
  obtain ⟨rs, nL, e1, f, it, e2, pn⟩ := s.ex
  exact ⟨s.rn, s.o.trans (o.mono (by simp)), ⟨rs, nL, o.keep _ _ (by simp) e1, f, it.oth o (by simp), o.keep _ _ (by simp) e2, paired_oth pn o⟩, o.keep _ _ (by simp) s.lk, s.sh⟩
theorem LSt.look (s : LSt H l nl L tk H1 r ds lk) (hl : H l ≠ none) (hne : l ≠ nl) (o : Oth [l] H1 H2) (e : H2 l = some (.lst (L ++ lk.map V.int ++ lk2.map V.int))) : LSt H l nl L tk H2 r ds (lk ++ lk2) := by
  obtain ⟨rs, nL, e1, f, it, e2, pn⟩ := s.ex
  obtain ⟨ol, hol⟩ : ∃ x, H l = some x := by
    cases h : H l with
    | none => exact absurd h hl
    | some x => exact ⟨x, rfl⟩
  exact ⟨s.rn, s.o.trans (o.mono (by simp)), ⟨rs, nL, o.keep _ _ (by simp [s.ln hl]) e1, f, it.oth o (fun v hv a ha => by rw [List.mem_singleton.mp ha]; exact f.ne hol v hv), o.keep _ _ (by simp [hne.symm]) e2, paired_oth pn o⟩, by rw [e, List.map_append, List.append_assoc], s.sh⟩
/-- behind a call for more rows, these added -/
theorem LSt.cat (s : LSt H l nl L tk H1 r ds lk) (hl : H l ≠ none) (hnl : H nl ≠ none) {rs rs2 nL2 : List V} (hr : H1 r = some (.lst rs)) (hfr : Fresh H rs) (hit : LItems H1 (lawNamed tk ds) rs)
    (f2 : Fresh H1 rs2) (it2 : LItems H2 (lawNamed (tk ++ (lawNamed tk ds).map (·.1)) ds2) rs2) (hl2 : H2 l = some (.lst (L ++ lk.map V.int ++ lk2.map V.int)))
    (hnl2 : H2 nl = some (.lst nL2)) (pn2 : Paired (IsT H2) ((tk ++ (lawNamed tk ds).map (·.1) ++ (lawNamed (tk ++ (lawNamed tk ds).map (·.1)) ds2).map (·.1)).map Nm.toT) nL2)
    (sh2 : ∀ n ∈ (lawNamed (tk ++ (lawNamed tk ds).map (·.1)) ds2).map (·.1), n.short) (o : Oth [l, nl] H1 H2) (hq : H2 q = none) :
    LSt H l nl L tk (upd H2 q (.lst (rs ++ rs2))) q (ds ++ ds2) (lk ++ lk2) := by
  have on := Oth.new (S := []) (o := .lst (rs ++ rs2)) hq
  obtain ⟨ol, hol⟩ : ∃ x, H l = some x := by
    cases h : H l with
    | none => exact absurd h hl
    | some x => exact ⟨x, rfl⟩
  obtain ⟨onl, honl⟩ : ∃ x, H nl = some x := by
    cases h : H nl with
    | none => exact absurd h hnl
    | some x => exact ⟨x, rfl⟩
  have hq1 : H1 q = none := by
    cases h : H1 q with
    | none => rfl
    | some x =>
      by_cases z : q ∈ [l, nl]
      · simp only [List.mem_cons, List.not_mem_nil, or_false] at z
        rcases z with rfl | rfl
        · rw [hl2] at hq; cases hq
        · rw [hnl2] at hq; cases hq
      · rw [o.keep q x z h] at hq; cases hq
  have hlq : l ≠ q := ne_of_none hl2 hq
  have hnq : nl ≠ q := ne_of_none hnl2 hq
  refine ⟨s.back hq1, s.o.trans (o.trans (on.mono (by simp))), ⟨rs ++ rs2, nL2, upd_same, ?_, ?_, on.keep _ _ (by simp) hnl2, ?_⟩, ?_, ?_⟩
  · intro v hv
    rcases List.mem_append.mp hv with h | h
    · exact hfr v h
    · obtain ⟨a, rfl, e⟩ := f2 v h
      exact ⟨a, rfl, s.back e⟩
  · rw [lawNamed_app]
    refine Paired.appendP ((hit.oth o fun v hv a ha => ?_).oth on (by simp)) (it2.oth on (by simp))
    simp only [List.mem_cons, List.not_mem_nil, or_false] at ha
    rcases ha with rfl | rfl
    · exact hfr.ne hol v hv
    · exact hfr.ne honl v hv
  · rw [names_app]
    exact paired_oth pn2 on
  · rw [List.map_append, ← List.append_assoc]
    exact on.keep _ _ (by simp) hl2
  · rw [names_app]
    intro n hn
    rcases List.mem_append.mp hn with h | h
    · exact s.sh n h
    · exact sh2 n h
/-- one more -/
theorem LSt.one (s : LSt H l nl L tk H1 r ds lk) (hl : H l ≠ none) (hnl : H nl ≠ none) (hne : l ≠ nl) {rs nL : List V} {d : Dr} {nv rv : V} (hr : H1 r = some (.lst rs)) (hfr : Fresh H rs) (hit : LItems H1 (lawNamed tk ds) rs)
    (hnL : H1 nl = some (.lst nL)) (pn : Paired (IsT H1) ((tk ++ (lawNamed tk ds).map (·.1)).map Nm.toT) nL) (tn : IsT H1 (lawName (tk ++ (lawNamed tk ds).map (·.1)) d).toT nv) (tr : IsT H1 d.tp.toT rv)
    (hs : (lawName (tk ++ (lawNamed tk ds).map (·.1)) d).short)
    (hq : (upd H1 nl (.lst (nL ++ [nv]))) q = none) :
    LSt H l nl L tk (upd (upd (upd H1 nl (.lst (nL ++ [nv]))) q (.lst [nv, rv, .int d.idx])) r (.lst (rs ++ [.ref q]))) r (ds ++ [d]) lk := by
  have o1 : Oth [nl] H1 (upd H1 nl (.lst (nL ++ [nv]))) := Oth.put (by simp) hnL
  have o2 := Oth.new (S := []) (o := .lst [nv, rv, .int d.idx]) hq
  have nrn := s.nn hnl
  have nrl := s.ln hl
  have hr2 : (upd (upd H1 nl (.lst (nL ++ [nv]))) q (.lst [nv, rv, .int d.idx])) r = some (.lst rs) := o2.keep _ _ (by simp) (o1.keep _ _ (by simp [nrn]) hr)
  have o3 : Oth [r] _ (upd (upd (upd H1 nl (.lst (nL ++ [nv]))) q (.lst [nv, rv, .int d.idx])) r (.lst (rs ++ [.ref q]))) := Oth.put (by simp) hr2
  have nqr : q ≠ r := fun e => by
    rw [← e] at hr
    by_cases z : q = nl
    · rw [z, upd_same] at hq; cases hq
    · rw [upd_ne z, hr] at hq; cases hq
  have nqn : nl ≠ q := fun e => by rw [← e, upd_same] at hq; cases hq
  have hq1 : H1 q = none := by rw [upd_ne nqn.symm] at hq; exact hq
  have nql : l ≠ q := ne_of_none s.lk hq1
  obtain ⟨onl, honl⟩ : ∃ x, H nl = some x := by
    cases h : H nl with
    | none => exact absurd h hnl
    | some x => exact ⟨x, rfl⟩
  have self := hit.ne_self hr hfr
  refine ⟨s.rn, ?_, ⟨rs ++ [.ref q], nL ++ [nv], upd_same, ?_, ?_, ?_, ?_⟩, ?_, ?_⟩
  · have z : Oth [l, nl, r] H (upd (upd (upd H1 nl (.lst (nL ++ [nv]))) q (.lst [nv, rv, .int d.idx])) r (.lst (rs ++ [.ref q]))) :=
      (s.o.mono (by simp)).trans ((o1.mono (by simp)).trans ((o2.mono (by simp)).trans (o3.mono (by simp))))
    exact Oth.drop (p := r) (z.mono (by simp)) s.rn
  · intro v hv
    rcases List.mem_append.mp hv with h | h
    · exact hfr v h
    · rw [List.mem_singleton.mp h]
      exact ⟨q, rfl, s.back hq1⟩
  · rw [lawNamed_app]
    refine Paired.appendP (((hit.oth o1 fun v hv a ha => by rw [List.mem_singleton.mp ha]; exact hfr.ne honl v hv).oth o2 (by simp)).oth o3 fun v hv a ha => by rw [List.mem_singleton.mp ha]; exact self v hv) ?_
    exact .cons ⟨q, nv, rv, rfl, o3.keep _ _ (by simp [nqr]) upd_same, ((tn.oth o1).oth o2).oth o3, ((tr.oth o1).oth o2).oth o3⟩ .nil
  · exact o3.keep _ _ (by simp [nrn.symm]) (o2.keep _ _ (by simp) upd_same)
  · rw [names_app, List.map_append]
    exact paired_app (paired_oth (paired_oth (paired_oth pn o1) o2) o3) (.cons (((tn.oth o1).oth o2).oth o3) .nil)
  · exact o3.keep _ _ (by simp [nrl.symm]) (o2.keep _ _ (by simp) (o1.keep _ _ (by simp [hne]) s.lk))
  · rw [names_app]
    intro n hn
    rcases List.mem_append.mp hn with h | h
    · exact s.sh n h
    · simp only [lawNamed, List.map_cons, List.map_nil, List.mem_singleton] at h
      rw [h]
      exact hs
end
def spLawLay (n : Nat) : Sp := fun vs H Q _ => ∃ (ts : List Tp) (c : Sc) (be re : List Int) (tk : List Nm) (vt va vr : V) (s sa sp ss l nl : Addr) (L nL : List V), vs = [vt, .ref s, .ref l, va, vr, .ref nl] ∧ IsT H (.tup (Tp.toTs ts)) vt ∧ IsT H (intsT be) va ∧ IsT H (intsT re) vr ∧
  H s = some (.lst [.ref sa, .ref sp, .ref ss, .int c.index]) ∧ H sa = some (.tup (c.cells.map V.int)) ∧ H sp = some (.tup (c.props.map V.int)) ∧ H ss = some (.tup (c.store.map V.int)) ∧ H l = some (.lst L) ∧ H nl = some (.lst nL) ∧ Paired (IsT H) (tk.map Nm.toT) nL ∧ (∀ n ∈ tk, n.short) ∧
  s ≠ l ∧ s ≠ nl ∧ l ≠ nl ∧ Tp.deps ts < n ∧ Tp.Fines ts ∧ L.length + Tp.wts ts ≤ 50000 ∧ nL.length + Tp.wts ts ≤ 50000 ∧ be.length + 2 * n ≤ 900 ∧ re.length + n ≤ 900 ∧
  ∀ (p : Addr) (H' : Hp) (rs nL' : List V), H p = none → H' p = some (.lst rs) → Fresh H rs → LItems H' (lawNamed tk (Tp.dis c be re 0 ts)) rs → H' l = some (.lst (L ++ (Tp.lks c ts).map V.int)) → H' nl = some (.lst nL') →
    Paired (IsT H') ((tk ++ (lawNamed tk (Tp.dis c be re 0 ts)).map (·.1)).map Nm.toT) nL' → (∀ n ∈ (lawNamed tk (Tp.dis c be re 0 ts)).map (·.1), n.short) → Oth [l, nl] H H' → Q (.ref p) H'
theorem lay_sub {n : Nat} {H H5 : Hp} {l nl r : Addr} {L : List V} {tk : List Nm} {ds : List Dr} {lk : List Int} (st : LSt H l nl L tk H5 r ds lk) (hln : H l ≠ none) (hnn : H nl ≠ none) (nln : l ≠ nl)
    {bs : List Tp} {c : Sc} {be re : List Int} {vb va vr : V} {s sa sp ss : Addr} {Q : VK} {E : XK} (tb : IsT H5 (.tup (Tp.toTs bs)) vb) (ta : IsT H5 (intsT be) va) (tr : IsT H5 (intsT re) vr)
    (esc : H5 s = some (.lst [.ref sa, .ref sp, .ref ss, .int c.index])) (esa : H5 sa = some (.tup (c.cells.map V.int))) (esp : H5 sp = some (.tup (c.props.map V.int))) (ess : H5 ss = some (.tup (c.store.map V.int))) (nsl : s ≠ l) (nsn : s ≠ nl)
    (hd : Tp.deps bs < n) (hf : Tp.Fines bs) (hz : L.length + lk.length + Tp.wts bs ≤ 50000) (hzn : tk.length + ds.length + Tp.wts bs ≤ 50000) (hbe : be.length + 2 * n ≤ 900) (hre : re.length + n ≤ 900)
    (q : ∀ (p : Addr) (H9 : Hp), LSt H l nl L tk H9 p (ds ++ Tp.dis c be re 0 bs) (lk ++ Tp.lks c bs) → Oth [l, nl] H5 H9 → Q (.ref p) H9) :
    spLawLay n [vb, .ref s, .ref l, va, vr, .ref nl] H5 (fun y H7 => rCat (.ref r) y H7 Q) E := by
  obtain ⟨rs, nL, er, fr, it, enl, pn⟩ := st.ex
  have lnL : nL.length = tk.length + ds.length := by rw [(paired_get pn).1, List.length_map, List.length_append, List.length_map, lawNamed_len]
  have lrs : rs.length = ds.length := by rw [it.len, lawNamed_len]
  refine ⟨bs, c, be, re, _, _, _, _, s, sa, sp, ss, l, nl, _, nL, rfl, tb, ta, tr, esc, esa, esp, ess, st.lk, enl, pn, st.sh, nsl, nsn, nln, hd, hf, by rw [List.length_append, List.length_map]; omega, by omega, hbe, hre, fun p H7 rs2 nL2 hp e7 f7 it7 l7 n7 pn7 sh7 o7 => ?_⟩
  have er7 := o7.keep r _ (by simp [st.ln hln, st.nn hnn]) er
  have l2 : rs2.length ≤ Tp.wts bs := by rw [it7.len, lawNamed_len]; exact Tp.dis_len _ _ _ _ _
  refine ⟨r, p, rs, rs2, rfl, rfl, er7, e7, Nat.le_trans (by omega : rs.length + rs2.length ≤ 50000) (by decide), fun p8 hp8 => ?_⟩
  exact q p8 _ (st.cat hln hnn er fr it f7 it7 l7 n7 pn7 sh7 o7 hp8) (o7.trans (Oth.new hp8))
end Pw
namespace Pw
open PySem PySem.Spec PyProof.Rows L2
theorem IsT.nats {H : Hp} {v : V} {ns : List Nat} (h : IsT H (natsT ns) v) : ∃ a, v = .ref a ∧ H a = some (.tup (ns.map natV)) := by
  obtain ⟨a, xs, rfl, e, p⟩ := h.inv
  have : ∀ {ns : List Nat} {xs : List V}, Paired (IsT H) (ns.map natT) xs → xs = ns.map natV := fun {ns} => by
    induction ns with
    | nil => intro xs p; cases p; rfl
    | cons n ns ih =>
      intro xs p
      cases p with
      | cons r q => cases r; rw [ih q]; rfl
  rw [this p] at e
  exact ⟨a, rfl, e⟩
theorem Pq.inv {H : Hp} {v : V} {p : Pq} (h : IsT H p.toT v) : ∃ (a c s q : Addr) (cs : List V), v = .ref a ∧ H a = some (.tup [.str "program", .ref c, .ref s, .ref q]) ∧ H c = some (.tup cs) ∧ Paired (IsT H) (p.comps.map Cq.toT) cs ∧ H s = some (.tup (p.store.map natV)) ∧ H q = some (.tup (p.parts.map natV)) := by
  obtain ⟨a, _, x, y, z, rfl, e, p1, p2, p3, p4⟩ := IsT.inv4 h
  obtain rfl := p1.of_str
  obtain ⟨c, cs, rfl, ec, pc⟩ := p2.inv
  obtain ⟨s, rfl, es⟩ := p3.nats
  obtain ⟨q, rfl, eq⟩ := p4.nats
  exact ⟨a, c, s, q, cs, rfl, e, ec, pc, es, eq⟩
theorem Cq.inv {H : Hp} {v : V} {c : Cq} (h : IsT H c.toT v) : ∃ (a x : Addr) (y z : V), v = .ref a ∧ H a = some (.tup [.str "component", .ref x, y, z]) ∧ H x = some (.tup (c.cells.map natV)) ∧ IsT H (.tup (Tp.toTs c.cs)) y ∧ IsT H (actsT c.acts) z := by
  obtain ⟨a, _, x, y, z, rfl, e, p1, p2, p3, p4⟩ := IsT.inv4 h
  obtain rfl := p1.of_str
  obtain ⟨c, rfl, ec⟩ := p2.nats
  exact ⟨a, c, y, z, rfl, e, ec, p3, p4⟩
def intsOf (ns : List Nat) : List Int := ns.map Int.ofNat
theorem ints_map (ns : List Nat) : (intsOf ns).map V.int = ns.map natV := by unfold intsOf; rw [List.map_map]; rfl
theorem natsT_intsOf (ns : List Nat) : natsT ns = .tup ((intsOf ns).map .int) := by unfold intsOf natsT; rw [List.map_map]; rfl
def spLawY (K : PySem.W.Frag) : Sp := fun vs H Q _ => ∃ (a : Addr) (ns : List Int), vs = [.ref a] ∧ SqL K H a (ns.map V.int) ∧ ns.length ≤ 63 ∧ ∀ H', Q (.bl true) H'
theorem sl_takeL {K : PySem.W.Frag} {H : Hp} {a : Addr} {xs : List V} {n : Nat} {Q : VK} (ha : H a = some (.lst xs)) (q : ∀ (c : Addr) (H' : Hp), H c = none → Oth [] H H' → H' c = some (.lst (xs.take n)) → Q (.ref c) H') : rSlL K (.ref a) none (some (n : Int)) H Q := by
  refine ⟨a, xs, rfl, SqL.of ha, fun p hp => q p _ hp (Oth.new hp) ?_⟩
  rw [upd_same]
  unfold cutV
  rw [HT.sIx_none, HT.sIx_nat, List.drop_zero, Nat.sub_zero]
  by_cases c : n ≤ xs.length
  · rw [Nat.min_eq_left c]
  · rw [Nat.min_eq_right (by omega), List.take_of_length_le (Nat.le_refl _), List.take_of_length_le (by omega)]
theorem nats_eqv (ns : List Int) : PyData.eqv (.list (T.dats (ns.map .int))) (.list (T.dats (ns.map .int))) = true := by
  simp [PyData.eqv, eqv_dats]
theorem ints_shaped (ns : List Int) : SeqAt.shaped (.list (T.dats (ns.map .int))) = true := by
  refine shaped_list fun t ht => ?_
  obtain ⟨i, _, rfl⟩ := List.mem_map.mp ht
  exact ⟨.int _ _, rfl⟩
theorem ne_ints {K : PySem.W.Frag} {H : Hp} {a b : Addr} {ns : List Int} {Q : VK} (ha : H a = some (.lst (ns.map V.int))) (hb : H b = some (.lst (ns.map V.int))) (q : Q (.bl false) H) : rNeD K (.ref a) (.ref b) H Q := by
  refine ⟨_, _, .lst (SqL.of ha) (paired_dp (int_paired ns)), .lst (SqL.of hb) (paired_dp (int_paired ns)), ints_shaped ns, ints_shaped ns, ?_⟩
  rw [nats_eqv]
  exact q
theorem Tp.item_dep {ts : List Tp} {t : Tp} {n : Nm} {i : Int} (hn : n.short) (hd : t.dep ≤ 3) (hf : t.Fine) (hc : t.cnt ≤ 5000) (k : Nat) : Dep (14 + k) (itemT (n, t, i)) := by
  rw [show 14 + k = (13 + k) + 1 by omega]
  refine .tup _ _ (by simp) ?_
  simp only [List.mem_cons, List.not_mem_nil, or_false, forall_eq_or_imp, forall_eq]
  exact ⟨(Nm.dep hn (10 + k)).mono (by omega), (Tp.dep_ok t hf hc).mono (by omega), (Dep.int (12 + k) i).mono (by omega)⟩
mutual
theorem Tp.dis1_tp : ∀ (t : Tp) (c : Sc) (addr reps : List Int), ∀ d ∈ t.dis1 c addr reps, d.tp.dep ≤ t.dep ∧ d.tp.cnt ≤ t.cnt ∧ (t.Fine → d.tp.Fine)
  | .when e cs os, c, addr, reps, d, h => by
    simp only [Tp.dis1] at h
    simp only [Tp.dep, Tp.cnt]
    split at h
    · obtain ⟨a, b, f⟩ := Tp.dis_tp os c _ reps 0 d h
      exact ⟨by omega, by omega, fun q => f q.2.2⟩
    · obtain ⟨a, b, f⟩ := Tp.dis_tp cs c _ reps 0 d h
      exact ⟨by omega, by omega, fun q => f q.2.1⟩
  | .each e cs, c, addr, reps, d, h => by
    simp only [Tp.dis1, List.mem_flatMap] at h
    obtain ⟨n, _, h⟩ := h
    obtain ⟨a, b, f⟩ := Tp.dis_tp cs _ addr _ 0 d h
    simp only [Tp.dep, Tp.cnt]
    exact ⟨by omega, by omega, fun q => f q.2⟩
  | .text _, c, addr, reps, d, h | .show _, c, addr, reps, d, h | .input _ _, c, addr, reps, d, h | .part _, c, addr, reps, d, h | .box _ _ _ _, c, addr, reps, d, h | .child _ _ _, c, addr, reps, d, h => by
    simp only [Tp.dis1, List.mem_singleton] at h
    subst h
    exact ⟨Nat.le_refl _, Nat.le_refl _, id⟩
theorem Tp.dis_tp : ∀ (ts : List Tp) (c : Sc) (before reps : List Int) (k : Nat), ∀ d ∈ Tp.dis c before reps k ts, d.tp.dep ≤ Tp.deps ts ∧ d.tp.cnt ≤ Tp.cnts ts ∧ (Tp.Fines ts → d.tp.Fine)
  | [], c, before, reps, k, d, h => nomatch h
  | t :: ts, c, before, reps, k, d, h => by
    simp only [Tp.dis, List.mem_append] at h
    simp only [Tp.deps, Tp.cnts]
    rcases h with h | h
    · obtain ⟨a, b, f⟩ := Tp.dis1_tp t c _ reps d h
      exact ⟨by omega, by omega, fun q => f q.1⟩
    · obtain ⟨a, b, f⟩ := Tp.dis_tp ts c before reps (k + 1) d h
      exact ⟨by omega, by omega, fun q => f q.2⟩
end
theorem lawNamed_tp : ∀ (ds : List Dr) (tk : List Nm), ∀ x ∈ lawNamed tk ds, ∃ d ∈ ds, x.2.1 = d.tp ∧ x.2.2 = d.idx
  | [], tk, x, h => nomatch h
  | d :: ds, tk, x, h => by
    simp only [lawNamed, List.mem_cons] at h
    rcases h with rfl | h
    · exact ⟨d, by simp, rfl, rfl⟩
    · obtain ⟨d', h1, h2⟩ := lawNamed_tp ds _ x h
      exact ⟨d', by simp [h1], h2⟩
theorem Cq.Ok.ndp {i last parts : Nat} {c : Cq} (h : c.Ok i last parts) : (Tp.ptss c.cs).Nodup := by
  refine h.pts.nodup_iff.mpr ?_
  split
  · exact List.nodup_range
  · exact List.nodup_nil
end Pw
namespace Pw
open PySem PySem.Spec PyProof.Rows L2
theorem enum_new_tup {v : Value} {o : Obj} {HH : Heap → Prop} (B : Begins v o HH) :
    Meets (Builtin.«enumerate.__new__» ⟨[.type "enumerate", v], []⟩) (fun _ R s => HH s.heap ∧
      R (.ok (.ret (.ref (s.heap.push o).objs.size))) { s with heap := (s.heap.push o).push { cls := .type "enumerate", data := .fields #[.none, .bool false, .ref s.heap.objs.size, rawInt 0, .none, .none] } }) :=
  .of_wp fun prog w A R s h => by
    obtain ⟨hp, g, d, tk, os⟩ := s
    obtain ⟨hB, h⟩ := h
    have isEnum := sub_enumerate
    have begun : ∀ {A' : Around} {E : Value → Shared → Prop} {Q : Value → Shared → Prop}, Q (.ref hp.objs.size) ⟨hp.push o, g, d, tk, os⟩ → wpAny (model prog w) A' (pyIter v) Q E ⟨hp, g, d, tk, os⟩ :=
      fun q => B.iter prog w _ _ ⟨hp, g, d, tk, os⟩ _ hB q
    wp_walk using begun
    refine wpAny_stack_any fun st => wpAny_pure ?_
    split
    · rename_i c _ _ _ _ _
      cases (c == Value.type "enumerate") <;> (wp_walk using begun; exact ⟨_, rfl, h⟩)
    · wp_walk using begun
      exact ⟨_, rfl, h⟩
section
variable {prog : Program} {w : World} {A : Around} {E : Value → Shared → Prop} {s : Shared}
theorem call_enum_tup {t : Addr} {items : Array Value} {Q : Value → Shared → Prop} (hT : IsTup s.heap t items)
    (h : ∀ h', IsEnum h' (s.heap.objs.size + 1) s.heap.objs.size 0 .none → h'.IsTupleIter s.heap.objs.size t 0 → (∀ b o, s.heap.get? b = some o → h'.get? b = some o) → Q (.ref (s.heap.objs.size + 1)) { s with heap := h' }) :
    wpAny (model prog w) A (call (.type "enumerate") [.ref t]) Q E s := by
  refine callType_new F.called_enumerate (by decide) (F.typeCall_enumerate_1 _) (F.newCall_enumerate_1 _) (fun obj => F.args_object_init_2 obj _) F.entry_enumerate_new (enum_new_tup (begins_tuple t items)) ⟨hT, ?_⟩
  generalize ho : ({ cls := .type "tuple_iterator", data := .fields #[.ref t, .int 0 0] } : Obj) = o
  have fr : o.isFreed = false := by subst ho; rfl
  have hz : (s.heap.push o).objs.size = s.heap.objs.size + 1 := Heap.size_push ..
  show _ ∧ _
  rw [hz]
  generalize hq : ({ cls := .type "enumerate", data := .fields #[.none, .bool false, .ref s.heap.objs.size, rawInt 0, .none, .none] } : Obj) = q
  have he : ((s.heap.push o).push q).get? (s.heap.objs.size + 1) = some q := by
    have z := Heap.get?_push_size (s.heap.push o) (o := q) (by subst hq; rfl)
    rw [hz] at z
    exact z
  have he' : IsEnum ((s.heap.push o).push q) (s.heap.objs.size + 1) s.heap.objs.size 0 .none := by subst hq; exact he
  refine ⟨⟨_, he', rfl⟩, h _ he' ?_ fun b ob x => Heap.get?_push_of_some _ (Heap.get?_push_of_some _ x)⟩
  subst ho
  exact ⟨_, Heap.get?_push_of_some _ (Heap.get?_push_size _ rfl), rfl, rfl⟩
end
/-- the tuple at a, its items in new pairs -/
def Itte (K : PySem.W.Frag) (a : Addr) (xs : List V) : It :=
  ⟨fun i H => SqT K H a xs ∧ i < xs.length, fun i H v H' => ∃ T x, v = .ref T ∧ H T = none ∧ H' = upd H T (.tup [.int (i : Nat), x]) ∧ xs[i]? = some x, fun i H => SqT K H a xs ∧ i = xs.length⟩
theorem turn_enumT {P : Program} {w : World} {K : PySem.W.Frag} {elts : List Expr} {kk : Nat} {tpos : Pos} (a e it : Addr) (xs : List V) :
    Turn P w K (.Tuple elts kk tpos) (Itte K a xs) [e, it] e (fun i h => (∃ old, IsEnum h e it ((i : Nat) : Int) old) ∧ h.IsTupleIter it a i ∧ e ≠ it ∧ a ≠ it ∧ a ≠ e) where
  mem := by simp
  obj := fun i h st b hb => by
    obtain ⟨⟨old, he⟩, ⟨o, ho, hc, hd⟩, _⟩ := st
    rcases (by simpa using hb : b = e ∨ b = it) with z | z
    · rw [z]; exact ⟨_, he, fun v q => nomatch q⟩
    · rw [z]; exact ⟨o, ho, fun v q => by rw [hd] at q; cases q⟩
  keep := fun i h h' st k => by
    obtain ⟨⟨old, he⟩, hi, hne⟩ := st
    exact ⟨⟨old, k e (by simp) _ he⟩, hi.at fun o q => k it (by simp) o q, hne⟩
  item := by
    intro X hP hw hK hc i pins s σ H E I hf st hg
    subst hP hw hK
    obtain ⟨⟨old, he⟩, hit, hne, hai, hae⟩ := st
    obtain ⟨hq, hi⟩ := hg
    obtain ⟨its, rv, tp, hz⟩ := I.tuple hq
    have hl := rv.length
    have e_lt : e < s.heap.objs.size := Heap.lt_size he
    have i_lt : it < s.heap.objs.size := by obtain ⟨_, q, _⟩ := hit; exact Heap.lt_size q
    have D := Draws.tuple (prog := X.prog) (w := X.w) (A := X.A.in1) (I.ok.hd hc) it a hai its.toArray
    refine wpAny_pyNext_enum_itemD D he ⟨hit, tp⟩ (by simp only [List.size_toArray]; omega) hne (by simp [hne, hae.symm]) fun u h' tk hu ho st' hT hsz hk => ?_
    obtain ⟨x, hx, ru⟩ : ∃ x, xs[i]? = some x ∧ RelV x u := by
      obtain ⟨u', hu', ru⟩ := rv.get (List.getElem?_eq_getElem hi)
      have hu2 : its[i]? = some u := by simpa using hu
      rw [hu2] at hu'
      cases hu'
      exact ⟨_, List.getElem?_eq_getElem hi, ru⟩
    refine ⟨_, rfl, wpAny_letOwnedTupleGo_enum (s := { s with heap := h', toks := tk + 1 }) ho fun h2 he2 sb => ?_⟩
    have hT2 : h2.get? s.heap.objs.size = some { cls := .type "tuple", data := .seq #[.int i tk, u] } := (sb.2 _ (Nat.ne_of_gt e_lt)).trans hT
    have new : ObjOk X.prog X.w (upd H s.heap.objs.size (.tup [.int (i : Nat), x])) h2 s.heap.objs.size (.tup [.int (i : Nat), x]) :=
      ⟨by show 2 ≤ sizeLine; decide, [.int i tk, u], .cons ⟨_, rfl⟩ (.cons ru .nil), ⟨_, hT2, rfl, _, rfl⟩⟩
    have I1 : Inv X pins σ (upd H s.heap.objs.size (.tup [.int (i : Nat), x])) { s with heap := h2, toks := tk + 1 } :=
      I.turnedNew (ch := [e, it]) (fun b ob hb q => (sb.2 b (fun z => hb (by simp [z]))).trans (hk b ob (fun z => hb (by simp [z])) (fun z => hb (by simp [z])) q)) hf (Nat.le_refl _) new
    refine ⟨.ref s.heap.objs.size, _, I1, rfl, ⟨_, x, rfl, I.hok.fresh (Nat.le_refl _), rfl, hx⟩, ⟨⟨u, ?_⟩, st'.1.at fun o q => (sb.2 it (Ne.symm hne)).trans q, hne, hai, hae⟩, fun b hb => ?_⟩
    · rw [show ((i + 1 : Nat) : Int) = (i : Int) + 1 by omega]
      exact he2
    · have lt : b < s.heap.objs.size := by
        rcases (by simpa using hb : b = e ∨ b = it) with z | z
        · rw [z]; exact e_lt
        · rw [z]; exact i_lt
      rw [upd_ne (Nat.ne_of_lt lt)]
      exact (hf b hb).1
  done := by
    intro X hP hw hK hc i pins s σ H E I hf st hg
    subst hP hw hK
    obtain ⟨⟨old, he⟩, hit, hne, hai, hae⟩ := st
    obtain ⟨hq, rfl⟩ := hg
    obtain ⟨its, rv, tp, hz⟩ := I.tuple hq
    obtain ⟨f0, f1, f2, f3, f4, f5⟩ := hf it (by simp)
    have hl := rv.length
    have D := Draws.tuple (prog := X.prog) (w := X.w) (A := X.A.in1) (I.ok.hd hc) it a hai its.toArray
    have e1 : xs.length = its.toArray.size := by simp only [List.size_toArray]; omega
    rw [e1] at hit he
    exact wpAny_pyNext_enum_endD D he ⟨hit, tp⟩ fun h' eb => ⟨rfl, I.turned (t' := s.toks) (fun b o hb q => eb b o hb q) f0 f1 f3 f4 f5⟩
  self := fun A i s Q E st h => let ⟨⟨_, he⟩, _⟩ := st; wpAny_pyIter_enum he h
def iEnumT (K : PySem.W.Frag) (ta : TA) : TI := fun σ H R => ta σ H fun vs H1 => ∃ a xs, vs = [.ref a] ∧ SqT K H1 a xs ∧ R (Itte K a xs) H1
theorem pi_enumT {X : Cx} {e : Expr} {ta : TA} {p pos tpos : Pos} {elts : List Expr} {kk : Nat} (hg : Gl X "enumerate") (hm : X.mg "enumerate" = none) (ha : PA X [e] ta) (hs : starEach [e] X.env = [(false, eval e X.env)] := by rfl) :
    PI X (.Tuple elts kk tpos) (.Call (.Name "enumerate" p) [e] [] pos) (iEnumT X.K ta) := by
  refine ⟨fun pins s σ H R I h => ?_⟩
  refine Call_ (ld_blt I hg hm boot_enumerate (PyProof.Rows.callWith_type1 (thn (ha.run pos pins s σ H _ I h) fun us s1 ⟨vs, H1, I1, r1, qq⟩ => ?_) hs rfl))
  obtain ⟨a, xs, rfl, hq, q⟩ := qq
  cases r1 with
  | cons r rr =>
    cases rr
    cases r
    obtain ⟨its, rv, tp, hz⟩ := I1.tuple hq
    have a_lt : a < s1.heap.objs.size := tp.lt
    refine call_enum_tup tp fun h' he hit hk => wpAny_pyIter_enum he ?_
    have I2 : Inv X pins σ H1 { s1 with heap := h' } := I1.kept (t' := s1.toks) hk
    refine ⟨s1.heap.objs.size + 1, [s1.heap.objs.size + 1, s1.heap.objs.size], _, _, H1, rfl, I2, turn_enumT a (s1.heap.objs.size + 1) s1.heap.objs.size xs, ⟨⟨.none, he⟩, hit, Nat.succ_ne_self _, Nat.ne_of_lt a_lt, Nat.ne_of_lt (Nat.lt_succ_of_lt a_lt)⟩, fun b hb => ?_, q⟩
    have hle : s1.heap.objs.size ≤ b := by
      rcases (by simpa using hb : b = s1.heap.objs.size + 1 ∨ b = s1.heap.objs.size) with z | z
      · rw [z]; exact Nat.le_add_right _ _
      · rw [z]; exact Nat.le_refl _
    exact I1.fpOk hle (I1.hok.fresh hle)
/-- a for over it -/
theorem for_enumT {K : PySem.W.Frag} {a : Addr} {xs : List V} {g : TG} {tb : TS} {D : Ends} {σ : L2.St} {H : Hp} (Pv : Nat → L2.St → Hp → Prop) (h0 : Pv 0 σ H) (hl : ∀ i σ H, i ≤ xs.length → Pv i σ H → SqT K H a xs)
    (hs : ∀ i x σ H T, xs[i]? = some x → Pv i σ H → H T = none → g (.ref T) σ (upd H T (.tup [.int (i : Nat), x])) fun σ2 H2 => tb { D with nx := Pv (i + 1), ct := Pv (i + 1), bk := D.nx } σ2 H2) (hd : ∀ σ H, Pv xs.length σ H → D.nx σ H) :
    ∃ W : Nat → Nat → L2.St → Hp → Prop, (∃ m, W 0 m σ H) ∧ ∀ i m σ H, W i m σ H →
      ((Itte K a xs).stop i H ∧ D.nx σ H) ∨ ((Itte K a xs).go i H ∧ ∃ N : L2.St → Hp → Prop, (∀ σ' H', N σ' H' → ∃ m', m' < m ∧ W (i + 1) m' σ' H') ∧ ∀ x H', (Itte K a xs).yld i H x H' → g x σ H' fun σ2 H2 => tb { D with nx := N, ct := N, bk := D.nx } σ2 H2) := by
  refine ⟨fun i m σ H => m = xs.length - i ∧ i ≤ xs.length ∧ Pv i σ H, ⟨xs.length, by simp, Nat.zero_le _, h0⟩, ?_⟩
  rintro i m σ H ⟨rfl, hi, p⟩
  have q := hl i σ H hi p
  by_cases lt : i < xs.length
  · refine .inr ⟨⟨q, lt⟩, Pv (i + 1), fun σ' H' p' => ⟨xs.length - (i + 1), by omega, rfl, lt, p'⟩, fun v H' y => ?_⟩
    obtain ⟨T, x, rfl, hT, rfl, hx⟩ := y
    exact hs i x σ H T hx p hT
  · obtain rfl : i = xs.length := by omega
    exact .inl ⟨⟨q, rfl⟩, hd σ H p⟩
end Pw
namespace Pw
open PySem PySem.Spec PyProof.Rows L2
def topS (i : Nat) : Stmt := PySem.Challenge.pw_pagewake_k10_rows_and_their_names.main.body.getD i (.Pass ⟨0, 0, 0, 0⟩)
abbrev sCell : Stmt := topS 13
abbrev sDigits : Stmt := topS 14
abbrev sDraw : Stmt := topS 15
theorem scCell : FnScope ["script", "k"] ["script", "k"] (defScope sCell) := ⟨rfl, rfl, rfl, by decide +kernel, rfl, by decide +kernel, by decide +kernel⟩
theorem scDigits : FnScope ["script", "first", "last", "digits", "k", "cell", "turn", "seed"] ["script", "first", "last"] (defScope sDigits) := ⟨rfl, rfl, rfl, by decide +kernel, rfl, by decide +kernel, by decide +kernel⟩
theorem scDraw : FnScope ["box", "many", "at"] ["box", "many"] (defScope sDraw) := ⟨rfl, rfl, rfl, by decide +kernel, rfl, by decide +kernel, by decide +kernel⟩
section
variable {P : Program} {w : World} {K : PySem.W.Frag} {mg : Str → Option Value} {base : Heap}
theorem ok_cell {f : Addr} {fd : FuncData} {k : Nat} (F : Fun K "_law_cell" "_law_cell" sCell f fd) (ml : mg "len" = none) : FnOk P w K mg base CX0 (k + 1) f fd ["script", "k"] (spCell' K) := by
  refine F.ok scCell (fun vs H Q E h => ?_) (fun cdv A outer s H vs Q E hr h => ?_)
  · obtain ⟨a, xs, i, rfl, _⟩ := h
    rfl
  obtain ⟨a, ns, i, rfl, hS, q⟩ := h
  refine ⟨_, pss_cons (ps_if (pt_cmpR op_lt (pv 1) (pe_callB call_len_seq (by rfl) ml PySem.boot_len (pa_cons (pv 0) pa_nil)) (nomark _)) (pss_one (ps_ret (pe_ix ix_list (pv 0) (pv 1) (fun _ _ => rfl)))) pss_nil)
    (pss_one (ps_ret pe_int)), ?_⟩
  refine ⟨_, rfl, _, rfl, a, _, rfl, .inl hS, _, _, rfl, rfl, _, rfl, ite2 (fun c => ?_) (fun c => ?_)⟩
  · have c' : (i : Int) < (((ns.map V.int).length : Nat) : Int) := of_decide_eq_true c
    have c2 : i < (ns.map V.int).length := by omega
    rw [List.length_map] at c2
    have g : (ns.map V.int)[i]? = some (.int ns[i]) := by rw [List.getElem?_map, List.getElem?_eq_getElem c2]; rfl
    exact ⟨_, rfl, _, rfl, a, _, _, _, rfl, rfl, hS, atI_nat g, q _⟩
  · exact q 0
theorem ok_draw {f : Addr} {fd : FuncData} {k : Nat} (F : Fun K "_law_draw" "_law_draw" sDraw f fd) (ml : mg "len" = none) (mi : mg "int" = none) : FnOk P w K mg base CX0 (k + 1) f fd ["box", "many"] spDraw := by
  refine F.ok scDraw (fun vs H Q E h => ?_) (fun cdv A outer s H vs Q E hr h => ?_)
  · obtain ⟨b, d, m, rest, rfl, _⟩ := h
    rfl
  obtain ⟨b, d, m, rest, rfl, hm, ⟨ds, at', hb, hd⟩, q⟩ := h
  have nd := scDraw.nd
  have i0 : ∀ (xs : List V) (x : V), atI (x :: xs) 0 = some x := fun xs x => atI_nat (j := 0) rfl
  have i1 : ∀ (xs : List V) (x y : V), atI (x :: y :: xs) 1 = some y := fun xs x y => atI_nat (j := 1) rfl
  refine ⟨_, pss_cons (ps_set (i := 2) nd rfl (.inl rfl) (pe_ix ix_list (pv 0) pe_int (fun _ _ => rfl)))
    (pss_cons (ps_asg (pe_op op_add (pv 2) pe_int) (pg_sub (pv 0) pe_int set_list))
    (pss_cons (ps_if (pt_cmpR op_lt (pv 2) (pe_callB call_len_seq (by rfl) ml PySem.boot_len (pa_cons (pe_ix ix_list (pv 0) pe_int (fun _ _ => rfl)) pa_nil)) (nomark _))
        (pss_one (ps_ret (pe_op op_mod (pe_callTy call_int1 (by rfl) mi bo_int (pa_cons (pe_ix ix_list (pe_ix ix_list (pv 0) pe_int (fun _ _ => rfl)) (pv 2) (fun _ _ => rfl)) pa_nil)) (pv 1)))) pss_nil)
      (pss_one (ps_ret pe_int)))), ?_⟩
  refine ⟨_, rfl, b, _, _, _, rfl, rfl, SqL.of hb, i1 _ _ _, ?_⟩
  refine ⟨_, rfl, _, _, rfl, rfl, _, rfl, b, _, 1, 1, rfl, rfl, hb, ?_, ?_⟩
  · show (if (0 : Int) ≤ 1 then (if (1 : Int) < ((rest.length + 1 + 1 : Nat) : Int) then some (1 : Int).toNat else none) else _) = some 1
    rw [if_pos (by decide), if_pos (by omega)]
    rfl
  have dne : d ≠ b := by
    intro e
    rw [e, hb] at hd
    cases ds with
    | nil => cases hd
    | cons x r => cases hd
  have hb' : upd H b (.lst (.ref d :: .int ((at' : Int) + 1) :: rest)) b = some (.lst (.ref d :: .int ((at' : Int) + 1) :: rest)) := upd_same
  have hd' : upd H b (.lst (.ref d :: .int ((at' : Int) + 1) :: rest)) d = some (.lst (ds.map V.int)) := by rw [upd_ne dne]; exact hd
  have o1 : Oth [b] H (upd H b (.lst (.ref d :: .int ((at' : Int) + 1) :: rest))) := Oth.put (by simp) hb
  have bx : Box (upd H b (.lst (.ref d :: .int ((at' : Int) + 1) :: rest))) b d rest := ⟨ds, at' + 1, by rw [hb']; rfl, hd'⟩
  refine ⟨_, rfl, _, rfl, b, _, _, _, rfl, rfl, SqL.of hb', i0 _ _, d, _, rfl, .inl (SqL.of hd'), _, _, rfl, rfl, _, rfl, ite2 (fun c => ?_) (fun c => ?_)⟩
  · have c' : (at' : Int) < (((ds.map V.int).length : Nat) : Int) := of_decide_eq_true c
    have c2 : at' < (ds.map V.int).length := by omega
    rw [List.length_map] at c2
    have g : (ds.map V.int)[at']? = some (.int ds[at']) := by rw [List.getElem?_map, List.getElem?_eq_getElem c2]; rfl
    refine ⟨_, rfl, b, _, _, _, rfl, rfl, SqL.of hb', i0 _ _, _, rfl, d, _, _, _, rfl, rfl, SqL.of hd', atI_nat g, .inl ⟨_, rfl, _, rfl, _, _, rfl, rfl, hm, ?_⟩⟩
    exact q _ _ (Int.emod_nonneg _ (by omega)) (Int.emod_lt_of_pos _ hm) bx o1
  · exact q 0 _ (by omega) hm bx o1
theorem ok_digits {f g : Addr} {fd gd : FuncData} {k : Nat} (F : Fun K "_law_digits" "_law_digits" sDigits f fd) (GC : FnOk P w K mg base CX0 k g gd ["script", "k"] (spCell' K)) (bC : Binds K gd ["script", "k"] []) (kC : PySem.W.keepIn K (.ref g) = true) (mC : mg "_law_cell" = some (.ref g))
    (m_range : mg "range" = none) (m_int : mg "int" = none) : FnOk P w K mg base CX0 (k + 1) f fd ["script", "first", "last"] (spDigits K) := by
  refine F.ok scDigits (fun vs H Q E h => ?_) (fun cdv A outer s H vs Q E hr h => ?_)
  · obtain ⟨a, ns, i, j, rfl, _⟩ := h
    rfl
  obtain ⟨a, ns, i0, j0, rfl, hS, hi0, hj0, q⟩ := h
  have nd := scDigits.nd
  refine ⟨_, (pss_cons (ps_set (i := 3) nd rfl (.inl rfl) (pe_lst pa_nil))
  (pss_cons (ps_for PassesOwn.never rfl (pi_range2 (by rfl) m_range (pa_cons (pv 1) (pa_cons (pv 2) pa_nil))) (pg_name (i := 4) nd rfl (.inl rfl))
  (pss_cons (ps_set (i := 5) nd rfl (.inl rfl) (pe_call GC hr rfl mC kC bC .nil pass0 (pa_cons (pv 0) (pa_cons (pv 4) pa_nil))))
  (pss_cut (ps_if (pt_cmpR op_lt (pv 5) pe_int (nomark _))
  (pss_one (ps_set (i := 5) nd rfl (.inl rfl) (pe_op op_sub pe_int (pe_op op_mul pe_int (pv 5)))))
  pss_nil)
  (pss_one (ps_if (pt_cmpR op_ge (pv 5) (pe_op op_pow pe_int pe_int) (nomark _))
  (pss_one (ps_for PassesOwn.never rfl (pi_range1 (by rfl) m_range (pa_cons pe_int pa_nil)) (pg_name (i := 6) nd rfl (.inl rfl))
  (pss_one (ps_if (pt_cmpR op_gt (pv 5) pe_int (nomark _))
  (pss_cons (ps_expr (pe_bm PySem.F.plainAttrs_list PySem.F.slot_list_append PySem.F.type_list_append mt_append (pv 3) (pa_cons (pe_op op_mod (pe_callTy call_int1 (by rfl) m_int bo_int (pa_cons (pv 5) pa_nil)) pe_int) pa_nil)))
  (pss_one (ps_set (i := 5) nd rfl (.inl rfl) (pe_op op_fdiv (pv 5) pe_int))))
  pss_nil))))
  (pss_cons (ps_set (i := 7) nd rfl (.inl rfl) (pe_op op_mod (pe_callTy call_int1 (by rfl) m_int bo_int (pa_cons (pe_op op_add (pe_op op_add (pe_op op_mul (pv 5) pe_int) (pe_op op_mul (pv 4) pe_int)) pe_int) pa_nil)) pe_int))
  (pss_one (ps_for PassesOwn.never rfl (pi_range1 (by rfl) m_range (pa_cons pe_int pa_nil)) (pg_name (i := 6) nd rfl (.inl rfl))
  (pss_cons (ps_set (i := 7) nd rfl (.inl rfl) (pe_op op_mod (pe_callTy call_int1 (by rfl) m_int bo_int (pa_cons (pe_op op_add (pe_op op_add (pe_op op_mul (pv 7) pe_int) (pe_op op_mul pe_int (pv 6))) pe_int) pa_nil)) pe_int))
  (pss_one (ps_expr (pe_bm PySem.F.plainAttrs_list PySem.F.slot_list_append PySem.F.type_list_append mt_append (pv 3) (pa_cons (pe_op op_mod (pe_callTy call_int1 (by rfl) m_int bo_int (pa_cons (pe_op op_fdiv (pv 7) pe_int) pa_nil)) pe_int) pa_nil)))))))))))))
  (pss_one (ps_ret (pv 3))))), ?_⟩
  refine ⟨Nat.zero_le _, fun p hp => ?_⟩
  refine ⟨_, rfl, _, rfl, (i0 : Int), (j0 : Int), rfl, ⟨by omega, by omega, by omega, by omega⟩, for_range (lo := (i0 : Int)) (n := ((j0 : Int) - (i0 : Int)).toNat)
    (fun i σ H1 => ∃ (x4 x5 x6 x7 : Option V) (ds : List Int), σ = [some (.ref a), some (.int (i0 : Int)), some (.int (j0 : Int)), some (.ref p), x4, x5, x6, x7] ∧ Oth [] H H1 ∧ H1 p = some (.lst (ds.map V.int)) ∧ ds.length ≤ 60 * i)
    ⟨none, none, none, none, [], rfl, Oth.new hp, upd_same, Nat.zero_le _⟩ (fun i σ H1 hi hW => ?_) (fun σ H1 hW => ?_)⟩
  · obtain ⟨x4, x5, x6, x7, ds, rfl, o1, hp1, hds⟩ := hW
    have hi2 : i < 100 := by omega
    refine ⟨_, rfl, _, rfl, a, ns, i0 + i, rfl, o1.sqL (by simp) hS, fun x => ?_⟩
    refine ⟨fun σ2 H2 => H2 = H1 ∧ ∃ c : Int, 0 ≤ c ∧ σ2 = [some (.ref a), some (.int (i0 : Int)), some (.int (j0 : Int)), some (.ref p), some (.int ((i0 : Int) + (i : Int))), some (.int c), x6, x7], ?_, ?_⟩
    · refine ⟨_, rfl, _, _, rfl, rfl, _, rfl, ite2 (fun c => ?_) (fun c => ?_)⟩
      · have c' : x < 0 := of_decide_eq_true c
        exact ⟨_, rfl, _, _, rfl, rfl, .inl ⟨by decide, by decide⟩, _, _, rfl, rfl, rfl, _, by omega, rfl⟩
      · have c' : ¬ x < 0 := of_decide_eq_false (Bool.eq_false_iff.mpr c)
        exact ⟨rfl, x, by omega, rfl⟩
    · rintro σ2 H2 ⟨rfl, c, hc, rfl⟩
      refine ⟨_, rfl, _, _, rfl, rfl, ⟨by decide, by decide, by decide⟩, _, _, rfl, rfl, _, rfl, ite2 (fun y => ?_) (fun y => ?_)⟩
      · refine ⟨60, rfl, by decide, by decide, for_range (lo := 0) (n := 60)
          (fun j σ H3 => ∃ (x6 : Option V) (c : Int) (ds : List Int), σ = [some (.ref a), some (.int (i0 : Int)), some (.int (j0 : Int)), some (.ref p), some (.int ((i0 : Int) + (i : Int))), some (.int c), x6, x7] ∧ Oth [] H H3 ∧ H3 p = some (.lst (ds.map V.int)) ∧ ds.length ≤ 60 * i + j)
          ⟨x6, c, ds, rfl, o1, hp1, by omega⟩ (fun j σ H3 hj hW => ?_) (fun σ H3 hW => ?_)⟩
        · obtain ⟨x6, c, ds, rfl, o3, hp3, hd3⟩ := hW
          refine ⟨_, rfl, _, _, rfl, rfl, _, rfl, ite2 (fun y => ?_) (fun y => ?_)⟩
          · have hs : (ds.map V.int).length < sizeLine := by rw [List.length_map]; exact Nat.lt_of_le_of_lt (by omega : ds.length ≤ 100000) (by decide)
            refine ⟨_, rfl, .inl ⟨rfl, _, SqL.of hp3⟩, _, rfl, .inl ⟨_, rfl, _, _, rfl, rfl, (by show (0 : Int) < 1000; decide), p, _, _, rfl, rfl, hp3, hs, ?_⟩⟩
            refine ⟨_, rfl, _, _, rfl, rfl, ⟨by decide, by decide⟩, _, _, ds ++ [c % 1000], rfl, (((o3.mono (S' := [p]) (by simp)).trans (Oth.put (by simp) hp3)).drop hp), ?_, ?_⟩
            · rw [upd_same, List.map_append]; rfl
            · rw [List.length_append]; simp; omega
          · exact ⟨_, c, ds, rfl, o3, hp3, by omega⟩
        · obtain ⟨x6, c, ds, rfl, o3, hp3, hd3⟩ := hW
          exact ⟨_, _, _, _, ds, rfl, o3, hp3, by omega⟩
      · have y' : c < 10 ^ 18 := Int.not_le.mp fun z => y (decide_eq_true z)
        have y2 : c < 1000000000000000000 := Int.lt_of_lt_of_le y' (by decide)
        refine ⟨_, rfl, _, _, rfl, rfl, .inl ⟨by omega, by omega⟩, _, rfl, _, _, rfl, rfl, .inl ⟨by omega, by omega⟩, _, _, rfl, rfl, _, _, rfl, rfl, .inl ⟨_, rfl, _, _, rfl, rfl, (by show (0 : Int) < 2147483647; decide), ?_⟩⟩
        have s0 : 0 ≤ (c * 48271 + ((i0 : Int) + (i : Int)) * 69621 + 11) % 2147483647 := Int.emod_nonneg _ (by decide)
        have s1 : (c * 48271 + ((i0 : Int) + (i : Int)) * 69621 + 11) % 2147483647 < 2147483647 := Int.emod_lt_of_pos _ (by decide)
        refine ⟨12, rfl, by decide, by decide, for_range (lo := 0) (n := 12)
          (fun j σ H3 => ∃ (x6 : Option V) (s : Int) (ds : List Int), σ = [some (.ref a), some (.int (i0 : Int)), some (.int (j0 : Int)), some (.ref p), some (.int ((i0 : Int) + (i : Int))), some (.int c), x6, some (.int s)] ∧ 0 ≤ s ∧ s < 2147483647 ∧ Oth [] H H3 ∧ H3 p = some (.lst (ds.map V.int)) ∧ ds.length ≤ 60 * i + j)
          ⟨x6, _, ds, rfl, s0, s1, o1, hp1, by omega⟩ (fun j σ H3 hj hW => ?_) (fun σ H3 hW => ?_)⟩
        · obtain ⟨x6, s', ds, rfl, t0, t1, o3, hp3, hd3⟩ := hW
          have hs : (ds.map V.int).length < sizeLine := by rw [List.length_map]; exact Nat.lt_of_le_of_lt (by omega : ds.length ≤ 100000) (by decide)
          refine ⟨_, rfl, _, _, rfl, rfl, .inl ⟨by omega, by omega⟩, _, rfl, _, _, rfl, rfl, .inl ⟨by decide, by decide⟩, _, _, rfl, rfl, _, _, rfl, rfl, .inl ⟨_, rfl, _, _, rfl, rfl, (by show (0 : Int) < 2147483647; decide), ?_⟩⟩
          refine ⟨_, rfl, .inl ⟨rfl, _, SqL.of hp3⟩, _, rfl, _, _, rfl, rfl, ⟨by decide, by decide⟩, .inl ⟨_, rfl, _, _, rfl, rfl, (by show (0 : Int) < 1000; decide), p, _, _, rfl, rfl, hp3, hs, ?_⟩⟩
          refine ⟨_, _, ds ++ [((s' * 16807 + 7 * (0 + (j : Int)) + 1) % 2147483647 / 997) % 1000], rfl, Int.emod_nonneg _ (by decide), Int.emod_lt_of_pos _ (by decide), (((o3.mono (S' := [p]) (by simp)).trans (Oth.put (by simp) hp3)).drop hp), ?_, ?_⟩
          · rw [upd_same, List.map_append]; rfl
          · rw [List.length_append]; simp; omega
        · obtain ⟨x6, s', ds, rfl, t0, t1, o3, hp3, hd3⟩ := hW
          exact ⟨_, _, _, _, ds, rfl, o3, hp3, by omega⟩
  · obtain ⟨x4, x5, x6, x7, ds, rfl, o1, hp1, hds⟩ := hW
    exact ⟨_, rfl, q p H1 ds hp o1 hp1⟩
end
abbrev sSame : Stmt := topS 16
theorem scSame : FnScope ["actual", "expected", "k"] ["actual", "expected"] (defScope sSame) := ⟨rfl, rfl, rfl, by decide +kernel, rfl, by decide +kernel, by decide +kernel⟩
section
variable {P : Program} {w : World} {K : PySem.W.Frag} {mg : Str → Option Value} {base : Heap}
theorem ok_same {f : Addr} {fd : FuncData} {k n : Nat} (F : Fun K "_law_same" "_law_same" sSame f fd)
    (GS : FnOk P w K mg base CX0 k f fd ["actual", "expected"] (spSame n)) (bS : Binds K fd ["actual", "expected"] []) (kS : PySem.W.keepIn K (.ref f) = true) (mS : mg "_law_same" = some (.ref f))
    (m_isinstance : mg "isinstance" = none) (m_tuple : mg "tuple" = none) (m_len : mg "len" = none) (m_range : mg "range" = none) (m_bool : mg "bool" = none) (m_int : mg "int" = none) (m_str : mg "str" = none) :
    FnOk P w K mg base CX0 (k + 1) f fd ["actual", "expected"] (spSame (n + 1)) := by
  refine F.ok scSame (fun vs H Q E h => ?_) (fun cdv A outer s H vs Q E hr h => ?_)
  · obtain ⟨t, v, u, rfl, _⟩ := h
    rfl
  obtain ⟨t, v, u, rfl, hv, hu, hd, q⟩ := h
  have nd := scSame.nd
  refine ⟨_, (pss_cons (ps_if (pt_val (pe_callB call_isi (by rfl) m_isinstance bo_isi (pa_cons (pv 1) (pa_cons (pe_bltn (v := .ty "tuple") (by rfl) m_tuple bo_tuple rfl) pa_nil))))
  (pss_cons (ps_if (PW.pt (pw_or (pt_not (pt_val (pe_callB call_isi (by rfl) m_isinstance bo_isi (pa_cons (pv 0) (pa_cons (pe_bltn (v := .ty "tuple") (by rfl) m_tuple bo_tuple rfl) pa_nil))))) (pw_or1 (pt_cmpR op_ne (pe_callB call_len_seq (by rfl) m_len PySem.boot_len (pa_cons (pv 0) pa_nil)) (pe_callB call_len_seq (by rfl) m_len PySem.boot_len (pa_cons (pv 1) pa_nil)) (nomark _)))))
  (pss_one (ps_ret pe_bl))
  pss_nil)
  (pss_cons (ps_for PassesOwn.never rfl (pi_range1 (by rfl) m_range (pa_cons (pe_callB call_len_seq (by rfl) m_len PySem.boot_len (pa_cons (pv 1) pa_nil)) pa_nil)) (pg_name (i := 2) nd rfl (.inl rfl))
  (pss_one (ps_if (pt_not (pt_val (pe_call GS hr rfl mS kS bS .nil pass0 (pa_cons (pe_ix ix_tup (pv 0) (pv 2) (fun _ _ => rfl)) (pa_cons (pe_ix ix_tup (pv 1) (pv 2) (fun _ _ => rfl)) pa_nil)))))
  (pss_one (ps_ret pe_bl))
  pss_nil)))
  (pss_one (ps_ret pe_bl))))
  pss_nil)
  (pss_cons (ps_if (pt_cmpR op_isN (pv 1) pe_non (nomark _))
  (pss_one (ps_ret (pe_cmpR op_isN (pv 0) pe_non (nomark _))))
  pss_nil)
  (pss_cons (ps_if (pt_val (pe_callB call_isi (by rfl) m_isinstance bo_isi (pa_cons (pv 1) (pa_cons (pe_bltn (v := .ty "bool") (by rfl) m_bool bo_bool rfl) pa_nil))))
  (pss_one (ps_ret (pe_and (pe_callB call_isi (by rfl) m_isinstance bo_isi (pa_cons (pv 0) (pa_cons (pe_bltn (v := .ty "bool") (by rfl) m_bool bo_bool rfl) pa_nil))) (pe_one (pe_cmpR op_eq (pv 0) (pv 1) (nomark _))))))
  pss_nil)
  (pss_cons (ps_if (pt_val (pe_callB call_isi (by rfl) m_isinstance bo_isi (pa_cons (pv 1) (pa_cons (pe_bltn (v := .ty "int") (by rfl) m_int bo_int rfl) pa_nil))))
  (pss_one (ps_ret (pe_and (pe_callB call_isi (by rfl) m_isinstance bo_isi (pa_cons (pv 0) (pa_cons (pe_bltn (v := .ty "int") (by rfl) m_int bo_int rfl) pa_nil))) (pe_and (pe_not (pe_callB call_isi (by rfl) m_isinstance bo_isi (pa_cons (pv 0) (pa_cons (pe_bltn (v := .ty "bool") (by rfl) m_bool bo_bool rfl) pa_nil)))) (pe_one (pe_cmpR op_eq (pv 0) (pv 1) (nomark _)))))))
  pss_nil)
  (pss_one (ps_ret (pe_and (pe_callB call_isi (by rfl) m_isinstance bo_isi (pa_cons (pv 0) (pa_cons (pe_bltn (v := .ty "str") (by rfl) m_str bo_str rfl) pa_nil))) (pe_one (pe_cmpR op_eq (pv 0) (pv 1) (nomark _)))))))))), ?_⟩
  cases hd with
  | non _ =>
    obtain rfl := hv.of_non
    obtain rfl := hu.of_non
    refine ⟨_, rfl, _, _, _, _, false, rfl, .ty "tuple", hu.ty, kit_ty kb_NoneType_tuple, _, rfl, iteF ?_⟩
    refine ⟨_, rfl, rfl, _, rfl, iteT ⟨_, rfl, rfl, ?_⟩⟩
    exact q
  | int _ i =>
    obtain rfl := hv.of_int
    obtain rfl := hu.of_int
    refine ⟨_, rfl, _, _, _, _, false, rfl, .ty "tuple", hu.ty, kit_ty kb_int_tuple, _, rfl, iteF ?_⟩
    refine ⟨_, rfl, rfl, _, rfl, iteF ?_⟩
    refine ⟨_, rfl, _, _, _, _, false, rfl, .ty "bool", hu.ty, kit_ty kb_int_bool, _, rfl, iteF ?_⟩
    refine ⟨_, rfl, _, _, _, _, true, rfl, .ty "int", hu.ty, kit_ty kb_int_int, _, rfl, iteT ?_⟩
    refine ⟨_, rfl, _, _, _, _, true, rfl, .ty "int", hu.ty, kit_ty kb_int_int, _, rfl, iteT ?_⟩
    refine ⟨_, rfl, _, _, _, _, false, rfl, .ty "bool", hu.ty, kit_ty kb_int_bool, _, rfl, _, rfl, iteT ?_⟩
    refine ⟨_, rfl, _, rfl, rfl, ?_⟩
    rw [decide_eq_true rfl]
    exact q
  | str _ x =>
    obtain rfl := hv.of_str
    obtain rfl := hu.of_str
    refine ⟨_, rfl, _, _, _, _, false, rfl, .ty "tuple", hu.ty, kit_ty kb_str_tuple, _, rfl, iteF ?_⟩
    refine ⟨_, rfl, rfl, _, rfl, iteF ?_⟩
    refine ⟨_, rfl, _, _, _, _, false, rfl, .ty "bool", hu.ty, kit_ty kb_str_bool, _, rfl, iteF ?_⟩
    refine ⟨_, rfl, _, _, _, _, false, rfl, .ty "int", hu.ty, kit_ty kb_str_int, _, rfl, iteF ?_⟩
    refine ⟨_, rfl, _, _, _, _, true, rfl, .ty "str", hu.ty, kit_ty kb_str_str, _, rfl, iteT ?_⟩
    refine ⟨_, rfl, _, rfl, rfl, ?_⟩
    rw [decide_eq_true rfl]
    exact q
  | tup _ ts hz hts =>
    obtain ⟨a, xs, rfl, ea, pa⟩ := hv.inv
    obtain ⟨b, ys, rfl, eb, pb⟩ := hu.inv
    have la := (paired_get pa).1
    have lb := (paired_get pb).1
    refine ⟨_, rfl, _, _, _, _, true, rfl, .ty "tuple", hu.ty, kit_ty kb_tuple_tuple, _, rfl, iteT ?_⟩
    refine ⟨_, rfl, _, _, _, _, true, rfl, .ty "tuple", hv.ty, kit_ty kb_tuple_tuple, _, rfl, iteF ?_⟩
    refine ⟨_, rfl, a, _, rfl, .inr (SqT.of ea), _, rfl, b, _, rfl, .inr (SqT.of eb), rfl, _, rfl, ?_⟩
    rw [la, lb, decide_eq_true rfl]
    refine iteF ?_
    refine ⟨_, rfl, b, _, rfl, .inr (SqT.of eb), _, rfl, by omega, by omega, for_range (lo := 0) (n := ((ys.length : Nat) : Int).toNat)
      (fun i σ H1 => H1 = H ∧ ∃ x2 : Option V, σ = [some (.ref a), some (.ref b), x2]) ⟨rfl, none, rfl⟩ (fun i σ H1 hi hW => ?_) (fun σ H1 hW => ?_)⟩
    · obtain ⟨rfl, x2, rfl⟩ := hW
      have hi1 : i < ts.length := by omega
      have ga : xs[i]? = some xs[i] := List.getElem?_eq_getElem (by omega)
      have gb : ys[i]? = some ys[i] := List.getElem?_eq_getElem (by omega)
      have gt : ts[i]? = some ts[i] := List.getElem?_eq_getElem hi1
      refine ⟨_, rfl, _, rfl, a, _, (i : Int), _, rfl, by rw [Int.zero_add], SqT.of ea, atI_nat ga, _, rfl, _, rfl, b, _, (i : Int), _, rfl, by rw [Int.zero_add], SqT.of eb, atI_nat gb, ?_⟩
      refine ⟨ts[i], _, _, rfl, (paired_get pa).2 i _ _ gt ga, (paired_get pb).2 i _ _ gt gb, hts _ (List.getElem_mem hi1), _, rfl, ?_⟩
      exact iteF ⟨rfl, _, rfl⟩
    · obtain ⟨rfl, x2, rfl⟩ := hW
      exact q
end
abbrev sValue : Stmt := topS 2
abbrev sThere : Stmt := topS 3
abbrev sItem : Stmt := topS 4
theorem scThere : FnScope ["row", "at"] ["row", "at"] (defScope sThere) := ⟨rfl, rfl, rfl, by decide +kernel, rfl, by decide +kernel, by decide +kernel⟩
theorem scItem : FnScope ["row", "at"] ["row", "at"] (defScope sItem) := ⟨rfl, rfl, rfl, by decide +kernel, rfl, by decide +kernel, by decide +kernel⟩
theorem scValue : FnScope ["expression", "scope", "looked", "_", "cells", "props", "store", "index", "number", "at", "left", "right", "condition", "chosen", "other"] ["expression", "scope", "looked"] (defScope sValue) := ⟨rfl, rfl, rfl, by decide +kernel, rfl, by decide +kernel, by decide +kernel⟩
section
variable {P : Program} {w : World} {K : PySem.W.Frag} {mg : Str → Option Value} {base : Heap}
theorem ok_there {f : Addr} {fd : FuncData} {k : Nat} (F : Fun K "_is_there" "_is_there" sThere f fd) (ml : mg "len" = none) : FnOk P w K mg base CX0 (k + 1) f fd ["row", "at"] (spThere K) := by
  refine F.ok scThere (fun vs H Q E h => ?_) (fun cdv A outer s H vs Q E hr h => ?_)
  · obtain ⟨a, xs, i, rfl, _⟩ := h
    rfl
  obtain ⟨a, xs, i, rfl, hS, q⟩ := h
  refine ⟨_, pss_one (ps_ret (pe_chain op_le op_lt pe_int (pv 1) (pe_callB call_len_seq rfl ml PySem.boot_len (pa_cons (pv 0) pa_nil)))), ?_⟩
  refine ⟨_, rfl, _, _, rfl, rfl, _, rfl, ?_⟩
  rw [decide_eq_true (by omega : (0 : Int) ≤ (i : Int))]
  refine iteT ⟨_, rfl, a, _, rfl, .inr hS, _, _, rfl, rfl, ?_⟩
  have e : decide ((i : Int) < (((xs.map V.int).length : Nat) : Int)) = decide (i < xs.length) := by
    rw [List.length_map]
    exact decide_eq_decide.mpr (by omega)
  rw [← e] at q
  exact q
theorem ok_item {f g : Addr} {fd gd : FuncData} {k : Nat} (F : Fun K "_item" "_item" sItem f fd) (G : FnOk P w K mg base CX0 k g gd ["row", "at"] (spThere K)) (bG : Binds K gd ["row", "at"] []) (kG : PySem.W.keepIn K (.ref g) = true) (mG : mg "_is_there" = some (.ref g)) :
    FnOk P w K mg base CX0 (k + 1) f fd ["row", "at"] (spItem K) := by
  refine F.ok scItem (fun vs H Q E h => ?_) (fun cdv A outer s H vs Q E hr h => ?_)
  · obtain ⟨a, xs, i, rfl, _⟩ := h
    rfl
  obtain ⟨a, xs, i, rfl, hS, q⟩ := h
  refine ⟨_, pss_one (ps_ret (pe_ifExp (pt_val (pe_call G hr rfl mG kG bG .nil pass0 (pa_cons (pv 0) (pa_cons (pv 1) pa_nil)))) (pe_ix ix_tup (pv 0) (pv 1) (fun _ _ => rfl)) pe_int)), ?_⟩
  refine ⟨_, rfl, _, rfl, a, xs, i, rfl, hS, _, rfl, ?_⟩
  refine ite2 (fun c => ?_) (fun c => ?_)
  · have c' : i < xs.length := of_decide_eq_true c
    exact ⟨_, rfl, _, rfl, a, _, _, _, rfl, rfl, hS, atI_nat (getD_of c'), q⟩
  · have c' : ¬ i < xs.length := of_decide_eq_false (Bool.eq_false_iff.mpr c)
    rw [getD_out c'] at q
    exact q
theorem ok_value {f g t : Addr} {fd gd td : FuncData} {k n : Nat} {tv : Tok} (F : Fun K "value" "value" sValue f fd)
    (S : FnOk P w K mg base CX0 k f fd ["expression", "scope", "looked"] (spValue n)) (bS : Binds K fd ["expression", "scope", "looked"] []) (kS : PySem.W.keepIn K (.ref f) = true) (mS : mg "value" = some (.ref f))
    (G : FnOk P w K mg base CX0 k g gd ["row", "at"] (spItem K)) (bG : Binds K gd ["row", "at"] []) (kG : PySem.W.keepIn K (.ref g) = true) (mG : mg "_item" = some (.ref g))
    (T : FnOk P w K mg base CX0 k t td ["row", "at"] (spThere K)) (bT : Binds K td ["row", "at"] []) (kT : PySem.W.keepIn K (.ref t) = true) (mT : mg "_is_there" = some (.ref t)) (mV : mg "VALUES" = some (.int 1000 tv)) :
    FnOk P w K mg base CX0 (k + 1) f fd ["expression", "scope", "looked"] (spValue (n + 1)) := by
  refine F.ok scValue (fun vs H Q E' h => ?_) (fun cdv A outer s H vs Q E' hr h => ?_)
  · obtain ⟨e, c, ve, vc, l, L, rfl, _⟩ := h
    rfl
  obtain ⟨e, c, ve, vc, l, L, rfl, he, hc, hL, hd, hz, q⟩ := h
  have nd := scValue.nd
  refine ⟨_, pss_cons (ps_asg (pv 1) (pg_tup rfl (pgs_cons (pg_name (i := 3) nd rfl (.inl rfl)) (pgs_cons (pg_name (i := 4) nd rfl (.inl rfl)) (pgs_cons (pg_name (i := 5) nd rfl (.inl rfl))
      (pgs_cons (pg_name (i := 6) nd rfl (.inl rfl)) (pgs_cons (pg_name (i := 7) nd rfl (.inl rfl)) pgs_nil)))))))
    (pss_one (ps_match (pv 0)
      (pcs_cons nd (pp_seq rfl (pps_cons' pp_str (pps_cons' (pp_name 8) pps_nil'))) (pss_one (ps_ret (pv 8)))
      (pcs_cons nd (pp_seq rfl (pps_cons' pp_str (pps_cons' (pp_name 9) pps_nil'))) (pss_one (ps_ret (pe_call G hr rfl mG kG bG .nil pass0 (pa_cons (pv 4) (pa_cons (pv 9) pa_nil)))))
      (pcs_cons nd (pp_seq rfl (pps_cons' pp_str (pps_cons' (pp_name 9) pps_nil'))) (pss_one (ps_ret (pe_call G hr rfl mG kG bG .nil pass0 (pa_cons (pv 5) (pa_cons (pv 9) pa_nil)))))
      (pcs_cons nd (pp_seq rfl (pps_cons' pp_str (pps_cons' (pp_name 9) pps_nil'))) (pss_cons (ps_if (pt_val (pe_call T hr rfl mT kT bT .nil pass0 (pa_cons (pv 6) (pa_cons (pv 9) pa_nil))))
          (pss_one (ps_expr (pe_bm PySem.F.plainAttrs_list PySem.F.slot_list_append PySem.F.type_list_append mt_append (pv 2) (pa_cons (pv 9) pa_nil)))) pss_nil)
        (pss_one (ps_ret (pe_call G hr rfl mG kG bG .nil pass0 (pa_cons (pv 6) (pa_cons (pv 9) pa_nil))))))
      (pcs_cons nd (pp_seq rfl (pps_cons' pp_str pps_nil')) (pss_one (ps_ret (pv 7)))
      (pcs_cons nd (pp_seq rfl (pps_cons' pp_str (pps_cons' (pp_name 10) (pps_cons' (pp_name 11) pps_nil'))))
        (pss_one (ps_ret (pe_op op_mod (pe_op op_add (pe_call S hr rfl mS kS bS .nil pass0 (pa_cons (pv 10) (pa_cons (pv 1) (pa_cons (pv 2) pa_nil)))) (pe_call S hr rfl mS kS bS .nil pass0 (pa_cons (pv 11) (pa_cons (pv 1) (pa_cons (pv 2) pa_nil))))) (pe_glob (v := .int 1000) rfl mV ⟨tv, rfl⟩))))
      (pcs_cons nd (pp_seq rfl (pps_cons' pp_str (pps_cons' (pp_name 10) (pps_cons' (pp_name 11) pps_nil'))))
        (pss_one (ps_ret (pe_op op_mod (pe_op op_sub (pe_call S hr rfl mS kS bS .nil pass0 (pa_cons (pv 10) (pa_cons (pv 1) (pa_cons (pv 2) pa_nil)))) (pe_call S hr rfl mS kS bS .nil pass0 (pa_cons (pv 11) (pa_cons (pv 1) (pa_cons (pv 2) pa_nil))))) (pe_glob (v := .int 1000) rfl mV ⟨tv, rfl⟩))))
      (pcs_cons nd (pp_seq rfl (pps_cons' pp_str (pps_cons' (pp_name 10) (pps_cons' (pp_name 11) pps_nil'))))
        (pss_one (ps_ret (pe_ifExp (pt_cmpR op_eq (pe_call S hr rfl mS kS bS .nil pass0 (pa_cons (pv 10) (pa_cons (pv 1) (pa_cons (pv 2) pa_nil)))) (pe_call S hr rfl mS kS bS .nil pass0 (pa_cons (pv 11) (pa_cons (pv 1) (pa_cons (pv 2) pa_nil)))) (nomark _)) pe_int pe_int)))
      (pcs_cons nd (pp_seq rfl (pps_cons' pp_str (pps_cons' (pp_name 10) (pps_cons' (pp_name 11) pps_nil'))))
        (pss_one (ps_ret (pe_ifExp (pt_cmpR op_lt (pe_call S hr rfl mS kS bS .nil pass0 (pa_cons (pv 10) (pa_cons (pv 1) (pa_cons (pv 2) pa_nil)))) (pe_call S hr rfl mS kS bS .nil pass0 (pa_cons (pv 11) (pa_cons (pv 1) (pa_cons (pv 2) pa_nil)))) (nomark _)) pe_int pe_int)))
      (pcs_cons nd (pp_seq rfl (pps_cons' pp_str (pps_cons' (pp_name 12) (pps_cons' (pp_name 13) (pps_cons' (pp_name 14) pps_nil')))))
        (pss_cons (ps_if (pt_cmpR op_ne (pe_call S hr rfl mS kS bS .nil pass0 (pa_cons (pv 12) (pa_cons (pv 1) (pa_cons (pv 2) pa_nil)))) pe_int (nomark _))
            (pss_one (ps_ret (pe_call S hr rfl mS kS bS .nil pass0 (pa_cons (pv 13) (pa_cons (pv 1) (pa_cons (pv 2) pa_nil)))))) pss_nil)
          (pss_one (ps_ret (pe_call S hr rfl mS kS bS .nil pass0 (pa_cons (pv 14) (pa_cons (pv 1) (pa_cons (pv 2) pa_nil)))))))
      pcs_nil))))))))))))
    , ?_⟩
  -- the scope taken apart
  obtain ⟨sc, _, v1, v2, v3, _, rfl, hsc, r0, r1, r2, r3, r4⟩ := IsT.inv5 hc
  obtain rfl := r0.of_str
  obtain rfl := r4.of_int
  obtain ⟨ac, rfl, hac⟩ := r1.ints
  obtain ⟨ap, rfl, hap⟩ := r2.ints
  obtain ⟨as, rfl, has⟩ := r3.ints
  refine ⟨_, rfl, sc, _, rfl, SqT.of hsc, rfl, _, _, rfl, _, _, rfl, _, _, rfl, _, _, rfl, _, _, rfl, rfl, ?_⟩
  cases e with
  | num m =>
    obtain ⟨a, _, _, rfl, ha, p0, p1⟩ := IsT.inv2 he
    obtain rfl := p0.of_str
    obtain rfl := p1.of_int
    refine ⟨_, rfl, case_hit (SqT.of ha) rfl ⟨_, _, rfl, _, rfl, ?_⟩⟩
    exact q H (by simpa [E.looks] using hL) Oth.refl
  | cell m =>
    obtain ⟨a, _, _, rfl, ha, p0, p1⟩ := IsT.inv2 he
    obtain rfl := p0.of_str
    obtain rfl := p1.of_int
    refine ⟨_, rfl, case_skip (SqT.of ha) (by decide) (case_hit (SqT.of ha) rfl ⟨_, _, rfl, _, rfl, _, rfl, _, c.cells, m, rfl, SqT.of hac, ?_⟩)⟩
    exact q H (by simpa [E.looks] using hL) Oth.refl
  | prop m =>
    obtain ⟨a, _, _, rfl, ha, p0, p1⟩ := IsT.inv2 he
    obtain rfl := p0.of_str
    obtain rfl := p1.of_int
    refine ⟨_, rfl, case_skip (SqT.of ha) (by decide) (case_skip (SqT.of ha) (by decide) (case_hit (SqT.of ha) rfl ⟨_, _, rfl, _, rfl, _, rfl, _, c.props, m, rfl, SqT.of hap, ?_⟩))⟩
    exact q H (by simpa [E.looks] using hL) Oth.refl
  | store m =>
    obtain ⟨a, _, _, rfl, ha, p0, p1⟩ := IsT.inv2 he
    obtain rfl := p0.of_str
    obtain rfl := p1.of_int
    refine ⟨_, rfl, case_skip (SqT.of ha) (by decide) (case_skip (SqT.of ha) (by decide) (case_skip (SqT.of ha) (by decide) (case_hit (SqT.of ha) rfl ⟨_, _, rfl, _, rfl, _, rfl, _, c.store, m, rfl, SqT.of has, _, rfl, ?_⟩)))⟩
    refine ite2 (fun y => ?_) (fun y => ?_)
    · have y' : m < c.store.length := of_decide_eq_true y
      have hs : L.length < sizeLine := Nat.lt_of_le_of_lt (by omega : L.length ≤ 100000) (by decide)
      refine ⟨_, rfl, .inl ⟨rfl, _, SqL.of hL⟩, _, rfl, l, _, _, rfl, rfl, hL, hs, ?_⟩
      have o1 : Oth [l] H (upd H l (.lst (L ++ [.int (m : Int)]))) := Oth.put (by simp) hL
      refine ⟨_, rfl, _, rfl, _, c.store, m, rfl, o1.sqT has, ?_⟩
      exact q _ (by rw [upd_same, E.looks, if_pos y']; rfl) o1
    · have y' : ¬ m < c.store.length := of_decide_eq_false (Bool.eq_false_iff.mpr y)
      refine ⟨_, rfl, _, rfl, _, c.store, m, rfl, SqT.of has, ?_⟩
      exact q H (by rw [E.looks, if_neg y']; simpa using hL) Oth.refl
  | index =>
    obtain ⟨a, _, rfl, ha, p0⟩ := IsT.inv1 he
    obtain rfl := p0.of_str
    refine ⟨_, rfl, case_skip (SqT.of ha) (by decide) (case_skip (SqT.of ha) (by decide) (case_skip (SqT.of ha) (by decide) (case_skip (SqT.of ha) (by decide) (case_hit (SqT.of ha) rfl ⟨_, rfl, ?_⟩))))⟩
    exact q H (by simpa [E.looks] using hL) Oth.refl
  | plus e1 e2 =>
    obtain ⟨a, _, v1, v2, rfl, ha, p0, p1, p2⟩ := IsT.inv3 he
    obtain rfl := p0.of_str
    have z1 := E.size_pos e1
    have z2 := E.size_pos e2
    have z3 := E.looks_le c e1
    simp only [E.depth, E.size] at hd hz
    refine ⟨_, rfl, case_skip (SqT.of ha) (by decide) (case_skip (SqT.of ha) (by decide) (case_skip (SqT.of ha) (by decide) (case_skip (SqT.of ha) (by decide) (case_skip (SqT.of ha) (by decide) (case_hit (SqT.of ha) rfl ⟨_, _, rfl, _, _, rfl, _, rfl, _, rfl, _, rfl, e1, c, _, _, l, L, rfl, p1, hc, hL, by omega, by omega, fun H1 hL1 o1 => ?_⟩)))))⟩
    refine ⟨_, rfl, _, rfl, _, rfl, e2, c, _, _, l, _, rfl, p2.oth o1, hc.oth o1, hL1, by omega, by simp only [List.length_append, List.length_map]; omega, fun H2 hL2 o2 => ?_⟩
    have fin : H2 l = some (.lst (L ++ (e1.looks c ++ e2.looks c).map V.int)) := by rw [hL2, List.map_append, List.append_assoc]
    refine ⟨_, _, rfl, rfl, _, _, rfl, rfl, (by show (0 : Int) < 1000; decide), ?_⟩
    exact q H2 fin (o1.trans o2)
  | minus e1 e2 =>
    obtain ⟨a, _, v1, v2, rfl, ha, p0, p1, p2⟩ := IsT.inv3 he
    obtain rfl := p0.of_str
    have z1 := E.size_pos e1
    have z2 := E.size_pos e2
    have z3 := E.looks_le c e1
    simp only [E.depth, E.size] at hd hz
    refine ⟨_, rfl, case_skip (SqT.of ha) (by decide) (case_skip (SqT.of ha) (by decide) (case_skip (SqT.of ha) (by decide) (case_skip (SqT.of ha) (by decide) (case_skip (SqT.of ha) (by decide) (case_skip (SqT.of ha) (by decide) (case_hit (SqT.of ha) rfl ⟨_, _, rfl, _, _, rfl, _, rfl, _, rfl, _, rfl, e1, c, _, _, l, L, rfl, p1, hc, hL, by omega, by omega, fun H1 hL1 o1 => ?_⟩))))))⟩
    refine ⟨_, rfl, _, rfl, _, rfl, e2, c, _, _, l, _, rfl, p2.oth o1, hc.oth o1, hL1, by omega, by simp only [List.length_append, List.length_map]; omega, fun H2 hL2 o2 => ?_⟩
    have fin : H2 l = some (.lst (L ++ (e1.looks c ++ e2.looks c).map V.int)) := by rw [hL2, List.map_append, List.append_assoc]
    refine ⟨_, _, rfl, rfl, _, _, rfl, rfl, (by show (0 : Int) < 1000; decide), ?_⟩
    exact q H2 fin (o1.trans o2)
  | same e1 e2 =>
    obtain ⟨a, _, v1, v2, rfl, ha, p0, p1, p2⟩ := IsT.inv3 he
    obtain rfl := p0.of_str
    have z1 := E.size_pos e1
    have z2 := E.size_pos e2
    have z3 := E.looks_le c e1
    simp only [E.depth, E.size] at hd hz
    refine ⟨_, rfl, case_skip (SqT.of ha) (by decide) (case_skip (SqT.of ha) (by decide) (case_skip (SqT.of ha) (by decide) (case_skip (SqT.of ha) (by decide) (case_skip (SqT.of ha) (by decide) (case_skip (SqT.of ha) (by decide) (case_skip (SqT.of ha) (by decide) (case_hit (SqT.of ha) rfl ⟨_, _, rfl, _, _, rfl, _, rfl, _, rfl, _, rfl, e1, c, _, _, l, L, rfl, p1, hc, hL, by omega, by omega, fun H1 hL1 o1 => ?_⟩)))))))⟩
    refine ⟨_, rfl, _, rfl, _, rfl, e2, c, _, _, l, _, rfl, p2.oth o1, hc.oth o1, hL1, by omega, by simp only [List.length_append, List.length_map]; omega, fun H2 hL2 o2 => ?_⟩
    have fin : H2 l = some (.lst (L ++ (e1.looks c ++ e2.looks c).map V.int)) := by rw [hL2, List.map_append, List.append_assoc]
    refine ⟨rfl, _, rfl, ite2 (fun y => ?_) (fun y => ?_)⟩
    · have y' : e1.val c = e2.val c := V.int.inj (of_decide_eq_true y)
      have q2 := q H2 fin (o1.trans o2)
      rw [E.val, if_pos y'] at q2
      exact q2
    · have y' : ¬ e1.val c = e2.val c := fun z => y (decide_eq_true (by rw [z]))
      have q2 := q H2 fin (o1.trans o2)
      rw [E.val, if_neg y'] at q2
      exact q2
  | less e1 e2 =>
    obtain ⟨a, _, v1, v2, rfl, ha, p0, p1, p2⟩ := IsT.inv3 he
    obtain rfl := p0.of_str
    have z1 := E.size_pos e1
    have z2 := E.size_pos e2
    have z3 := E.looks_le c e1
    simp only [E.depth, E.size] at hd hz
    refine ⟨_, rfl, case_skip (SqT.of ha) (by decide) (case_skip (SqT.of ha) (by decide) (case_skip (SqT.of ha) (by decide) (case_skip (SqT.of ha) (by decide) (case_skip (SqT.of ha) (by decide) (case_skip (SqT.of ha) (by decide) (case_skip (SqT.of ha) (by decide) (case_skip (SqT.of ha) (by decide) (case_hit (SqT.of ha) rfl ⟨_, _, rfl, _, _, rfl, _, rfl, _, rfl, _, rfl, e1, c, _, _, l, L, rfl, p1, hc, hL, by omega, by omega, fun H1 hL1 o1 => ?_⟩))))))))⟩
    refine ⟨_, rfl, _, rfl, _, rfl, e2, c, _, _, l, _, rfl, p2.oth o1, hc.oth o1, hL1, by omega, by simp only [List.length_append, List.length_map]; omega, fun H2 hL2 o2 => ?_⟩
    have fin : H2 l = some (.lst (L ++ (e1.looks c ++ e2.looks c).map V.int)) := by rw [hL2, List.map_append, List.append_assoc]
    refine ⟨_, _, rfl, rfl, _, rfl, ite2 (fun y => ?_) (fun y => ?_)⟩
    · have y' : e1.val c < e2.val c := of_decide_eq_true y
      have q2 := q H2 fin (o1.trans o2)
      rw [E.val, if_pos y'] at q2
      exact q2
    · have y' : ¬ e1.val c < e2.val c := fun z => y (decide_eq_true z)
      have q2 := q H2 fin (o1.trans o2)
      rw [E.val, if_neg y'] at q2
      exact q2
  | ite e0 e1 e2 =>
    obtain ⟨a, _, v0, v1, v2, rfl, ha, p0, p3, p1, p2⟩ := IsT.inv4 he
    obtain rfl := p0.of_str
    have z0 := E.size_pos e0
    have z1 := E.size_pos e1
    have z2 := E.size_pos e2
    have z3 := E.looks_le c e0
    simp only [E.depth, E.size] at hd hz
    refine ⟨_, rfl, case_skip (SqT.of ha) (by decide) (case_skip (SqT.of ha) (by decide) (case_skip (SqT.of ha) (by decide) (case_skip (SqT.of ha) (by decide) (case_skip (SqT.of ha) (by decide) (case_skip (SqT.of ha) (by decide) (case_skip (SqT.of ha) (by decide) (case_skip (SqT.of ha) (by decide) (case_skip (SqT.of ha) (by decide) (case_hit (SqT.of ha) rfl ⟨_, _, rfl, _, _, rfl, _, _, rfl, _, rfl, _, rfl, _, rfl, e0, c, _, _, l, L, rfl, p3, hc, hL, by omega, by omega, fun H1 hL1 o1 => ?_⟩)))))))))⟩
    refine ⟨rfl, _, rfl, ite2 (fun y => ?_) (fun y => ?_)⟩
    · have y' : ¬ e0.val c = 0 := fun z => by rw [z] at y; exact absurd y (by decide)
      refine ⟨_, rfl, _, rfl, _, rfl, e1, c, _, _, l, _, rfl, p1.oth o1, hc.oth o1, hL1, by omega, by simp only [List.length_append, List.length_map]; omega, fun H2 hL2 o2 => ?_⟩
      have q2 := q H2 (by rw [hL2, E.looks, if_neg y', List.map_append, List.append_assoc]) (o1.trans o2)
      rw [E.val, if_neg y'] at q2
      exact q2
    · have y' : e0.val c = 0 := Decidable.byContradiction fun z => y (by rw [decide_eq_false (fun w => z (V.int.inj w))]; rfl)
      refine ⟨_, rfl, _, rfl, _, rfl, e2, c, _, _, l, _, rfl, p2.oth o1, hc.oth o1, hL1, by omega, by simp only [List.length_append, List.length_map]; omega, fun H2 hL2 o2 => ?_⟩
      have q2 := q H2 (by rw [hL2, E.looks, if_pos y', List.map_append, List.append_assoc]) (o1.trans o2)
      rw [E.val, if_pos y'] at q2
      exact q2
end
abbrev sLawValue : Stmt := topS 24
theorem scLawValue : FnScope ["e", "scope", "looked", "row", "one", "two"] ["e", "scope", "looked"] (defScope sLawValue) := ⟨rfl, rfl, rfl, by decide +kernel, rfl, by decide +kernel, by decide +kernel⟩
section
variable {P : Program} {w : World} {K : PySem.W.Frag} {mg : Str → Option Value} {base : Heap}
theorem ok_lawvalue {f : Addr} {fd : FuncData} {k n : Nat} (F : Fun K "_law_value" "_law_value" sLawValue f fd)
    (GV : FnOk P w K mg base CX0 k f fd ["e", "scope", "looked"] (spLawValue n)) (bV : Binds K fd ["e", "scope", "looked"] []) (kV : PySem.W.keepIn K (.ref f) = true) (mV : mg "_law_value" = some (.ref f)) (m_int : mg "int" = none) (m_len : mg "len" = none) :
    FnOk P w K mg base CX0 (k + 1) f fd ["e", "scope", "looked"] (spLawValue (n + 1)) := by
  refine F.ok scLawValue (fun vs H Q E h => ?_) (fun cdv A outer s H vs Q E' hr h => ?_)
  · obtain ⟨e, c, ve, sa, ac, ap, as, l, L, rfl, _⟩ := h
    rfl
  obtain ⟨e, c, ve, sa, ac, ap, as, l, L, rfl, he, hsa, hac, hap, has, hne, hL, hd, hz, q⟩ := h
  have nd := scLawValue.nd
  refine ⟨_, (pss_cons (ps_if (pt_cmpR op_eq (pe_ix ix_tup (pv 0) pe_int (fun _ _ => rfl)) pe_str (nomark _))
  (pss_one (ps_ret (pe_ix ix_tup (pv 0) pe_int (fun _ _ => rfl))))
  pss_nil)
  (pss_cons (ps_if (pt_cmpR op_eq (pe_ix ix_tup (pv 0) pe_int (fun _ _ => rfl)) pe_str (nomark _))
  (pss_one (ps_ret (pe_ix ix_list (pv 1) pe_int (fun _ _ => rfl))))
  pss_nil)
  (pss_cons (ps_if (pt_cmpR op_in_seq (pe_ix ix_tup (pv 0) pe_int (fun _ _ => rfl)) (pe_lst (pa_cons pe_str (pa_cons pe_str (pa_cons pe_str pa_nil)))) (by rfl))
  (pss_cons (ps_set (i := 3) nd rfl (.inl rfl) (pe_ix ix_list (pv 1) (pe_bm PySem.F.plainAttrs_list PySem.F.slot_list_index PySem.F.type_list_index mt_index (pe_lst (pa_cons pe_str (pa_cons pe_str (pa_cons pe_str pa_nil)))) (pa_cons (pe_ix ix_tup (pv 0) pe_int (fun _ _ => rfl)) pa_nil)) (fun _ _ => rfl)))
  (pss_cons (ps_if (pt_cmpR op_ge (pe_ix ix_tup (pv 0) pe_int (fun _ _ => rfl)) (pe_callB call_len_seq (by rfl) m_len PySem.boot_len (pa_cons (pv 3) pa_nil)) (nomark _))
  (pss_one (ps_ret pe_int))
  pss_nil)
  (pss_cut (ps_if (pt_cmpR op_eq (pe_ix ix_tup (pv 0) pe_int (fun _ _ => rfl)) pe_str (nomark _))
  (pss_one (ps_expr (pe_bm PySem.F.plainAttrs_list PySem.F.slot_list_append PySem.F.type_list_append mt_append (pv 2) (pa_cons (pe_ix ix_tup (pv 0) pe_int (fun _ _ => rfl)) pa_nil))))
  pss_nil)
  (pss_one (ps_ret (pe_ix ix_tup (pv 3) (pe_ix ix_tup (pv 0) pe_int (fun _ _ => rfl)) (fun _ _ => rfl)))))))
  pss_nil)
  (pss_cons (ps_set (i := 4) nd rfl (.inl rfl) (pe_call GV hr rfl mV kV bV .nil pass0 (pa_cons (pe_ix ix_tup (pv 0) pe_int (fun _ _ => rfl)) (pa_cons (pv 1) (pa_cons (pv 2) pa_nil)))))
  (pss_cons (ps_if (pt_cmpR op_eq (pe_ix ix_tup (pv 0) pe_int (fun _ _ => rfl)) pe_str (nomark _))
  (pss_one (ps_ret (pe_call GV hr rfl mV kV bV .nil pass0 (pa_cons (pe_ix ix_tup (pv 0) (pe_ix ix_list (pe_lst (pa_cons pe_int (pa_cons pe_int pa_nil))) (pe_callTy call_int1 (by rfl) m_int bo_int (pa_cons (pe_cmpR op_ne (pv 4) pe_int (nomark _)) pa_nil)) (fun _ _ => rfl)) (fun _ _ => rfl)) (pa_cons (pv 1) (pa_cons (pv 2) pa_nil))))))
  pss_nil)
  (pss_cons (ps_set (i := 5) nd rfl (.inl rfl) (pe_call GV hr rfl mV kV bV .nil pass0 (pa_cons (pe_ix ix_tup (pv 0) pe_int (fun _ _ => rfl)) (pa_cons (pv 1) (pa_cons (pv 2) pa_nil)))))
  (pss_cons (ps_if (pt_cmpR op_eq (pe_ix ix_tup (pv 0) pe_int (fun _ _ => rfl)) pe_str (nomark _))
  (pss_one (ps_ret (pe_op op_mod (pe_callTy call_int1 (by rfl) m_int bo_int (pa_cons (pe_op op_add (pv 4) (pv 5)) pa_nil)) pe_int)))
  pss_nil)
  (pss_cons (ps_if (pt_cmpR op_eq (pe_ix ix_tup (pv 0) pe_int (fun _ _ => rfl)) pe_str (nomark _))
  (pss_one (ps_ret (pe_op op_mod (pe_callTy call_int1 (by rfl) m_int bo_int (pa_cons (pe_op op_sub (pv 4) (pv 5)) pa_nil)) pe_int)))
  pss_nil)
  (pss_cons (ps_if (pt_cmpR op_eq (pe_ix ix_tup (pv 0) pe_int (fun _ _ => rfl)) pe_str (nomark _))
  (pss_one (ps_ret (pe_callTy call_int1 (by rfl) m_int bo_int (pa_cons (pe_cmpR op_eq (pv 4) (pv 5) (nomark _)) pa_nil))))
  pss_nil)
  (pss_one (ps_ret (pe_callTy call_int1 (by rfl) m_int bo_int (pa_cons (pe_cmpR op_lt (pv 4) (pv 5) (nomark _)) pa_nil))))))))))))), ?_⟩
  cases e with
  | num m =>
    obtain ⟨a, _, _, rfl, ha, p0, p1⟩ := IsT.inv2 he
    obtain rfl := p0.of_str
    obtain rfl := p1.of_int
    refine ⟨_, rfl, a, _, _, _, rfl, rfl, SqT.of ha, at0, rfl, _, rfl, iteTd rfl ?_⟩
    refine ⟨_, rfl, a, _, _, _, rfl, rfl, SqT.of ha, at1, ?_⟩
    exact q H (by simpa [E.looks] using hL) Oth.refl
  | cell m =>
    obtain ⟨a, _, _, rfl, ha, p0, p1⟩ := IsT.inv2 he
    obtain rfl := p0.of_str
    obtain rfl := p1.of_int
    refine ⟨_, rfl, a, _, _, _, rfl, rfl, SqT.of ha, at0, rfl, _, rfl, iteFd (by decide) ?_⟩
    refine ⟨_, rfl, a, _, _, _, rfl, rfl, SqT.of ha, at0, rfl, _, rfl, iteFd (by decide) ?_⟩
    refine ⟨_, rfl, a, _, _, _, rfl, rfl, SqT.of ha, at0, sz, fun l0 hl0 => ⟨l0, _, rfl, .inl (SqL.of upd_same), rfl, rfl, _, rfl, iteTb (by decide) ?_⟩⟩
    have o0 : Oth [l] H (upd H l0 (.lst [.str "cell", .str "prop", .str "store"])) := Oth.new hl0
    have ha0 := o0.tup _ _ ha
    have hsa0 := o0.keep sa _ (by simp [hne]) hsa
    have hL0 : (upd H l0 (.lst [.str "cell", .str "prop", .str "store"])) l = some (.lst L) := by rw [upd_ne (ne_of_none hL hl0)]; exact hL
    refine ⟨_, rfl, sz, fun l1 hl1 => ⟨.inl ⟨rfl, _, SqL.of upd_same⟩, ?_⟩⟩
    have o1 : Oth [l] (upd H l0 (.lst [.str "cell", .str "prop", .str "store"])) (upd (upd H l0 (.lst [.str "cell", .str "prop", .str "store"])) l1 (.lst [.str "cell", .str "prop", .str "store"])) := Oth.new hl1
    have ha1 := o1.tup _ _ ha0
    have hsa1 := o1.keep sa _ (by simp [hne]) hsa0
    have hL1 : (upd (upd H l0 (.lst [.str "cell", .str "prop", .str "store"])) l1 (.lst [.str "cell", .str "prop", .str "store"])) l = some (.lst L) := by rw [upd_ne (ne_of_none hL0 hl1)]; exact hL0
    have hx := o1.tup _ _ (o0.tup _ _ hac)
    refine ⟨_, rfl, a, _, _, _, rfl, rfl, SqT.of ha1, at0, l1, _, _, 0, _, rfl, rfl, SqL.of upd_same, rfl, rfl, rfl, rfl, fun m z' h => absurd h (Nat.not_lt_zero _), sa, _, _, _, rfl, rfl, SqL.of hsa1, at0, ?_⟩
    refine ⟨_, rfl, a, _, _, _, rfl, rfl, SqT.of ha1, at1, _, rfl, ac, _, rfl, .inr (SqT.of hx), _, _, rfl, rfl, _, rfl, ite2 (fun y => ?_) (fun y => ?_)⟩
    · have y' : ((c.cells.map V.int).length : Int) ≤ (m : Int) := of_decide_eq_true y
      rw [List.length_map] at y'
      have y2 : ¬ m < c.cells.length := by omega
      have q2 := q _ (by rw [hL1]; simp [E.looks]) (o0.trans o1)
      rw [E.val, getD_out y2] at q2
      exact q2
    · have y' : ¬ ((c.cells.map V.int).length : Int) ≤ (m : Int) := of_decide_eq_false (Bool.eq_false_iff.mpr y)
      rw [List.length_map] at y'
      have y2 : m < c.cells.length := by omega
      refine ⟨fun σ2 H2 => σ2 = [some (.ref a), some (.ref sa), some (.ref l), some (.ref ac), none, none] ∧ H2 = _, ⟨_, rfl, a, _, _, _, rfl, rfl, SqT.of ha1, at0, rfl, _, rfl, iteFd (by decide) ⟨rfl, rfl⟩⟩, ?_⟩
      rintro σ2 H2 ⟨rfl, rfl⟩
      refine ⟨_, rfl, _, rfl, a, _, _, _, rfl, rfl, SqT.of ha1, at1, ac, _, _, _, rfl, rfl, SqT.of hx, atI_nat (getD_of y2), ?_⟩
      exact q _ (by rw [hL1]; simp [E.looks]) (o0.trans o1)
  | prop m =>
    obtain ⟨a, _, _, rfl, ha, p0, p1⟩ := IsT.inv2 he
    obtain rfl := p0.of_str
    obtain rfl := p1.of_int
    refine ⟨_, rfl, a, _, _, _, rfl, rfl, SqT.of ha, at0, rfl, _, rfl, iteFd (by decide) ?_⟩
    refine ⟨_, rfl, a, _, _, _, rfl, rfl, SqT.of ha, at0, rfl, _, rfl, iteFd (by decide) ?_⟩
    refine ⟨_, rfl, a, _, _, _, rfl, rfl, SqT.of ha, at0, sz, fun l0 hl0 => ⟨l0, _, rfl, .inl (SqL.of upd_same), rfl, rfl, _, rfl, iteTb (by decide) ?_⟩⟩
    have o0 : Oth [l] H (upd H l0 (.lst [.str "cell", .str "prop", .str "store"])) := Oth.new hl0
    have ha0 := o0.tup _ _ ha
    have hsa0 := o0.keep sa _ (by simp [hne]) hsa
    have hL0 : (upd H l0 (.lst [.str "cell", .str "prop", .str "store"])) l = some (.lst L) := by rw [upd_ne (ne_of_none hL hl0)]; exact hL
    refine ⟨_, rfl, sz, fun l1 hl1 => ⟨.inl ⟨rfl, _, SqL.of upd_same⟩, ?_⟩⟩
    have o1 : Oth [l] (upd H l0 (.lst [.str "cell", .str "prop", .str "store"])) (upd (upd H l0 (.lst [.str "cell", .str "prop", .str "store"])) l1 (.lst [.str "cell", .str "prop", .str "store"])) := Oth.new hl1
    have ha1 := o1.tup _ _ ha0
    have hsa1 := o1.keep sa _ (by simp [hne]) hsa0
    have hL1 : (upd (upd H l0 (.lst [.str "cell", .str "prop", .str "store"])) l1 (.lst [.str "cell", .str "prop", .str "store"])) l = some (.lst L) := by rw [upd_ne (ne_of_none hL0 hl1)]; exact hL0
    have hx := o1.tup _ _ (o0.tup _ _ hap)
    refine ⟨_, rfl, a, _, _, _, rfl, rfl, SqT.of ha1, at0, l1, _, _, 1, _, rfl, rfl, SqL.of upd_same, rfl, rfl, rfl, rfl, lt1 rfl, sa, _, _, _, rfl, rfl, SqL.of hsa1, at1, ?_⟩
    refine ⟨_, rfl, a, _, _, _, rfl, rfl, SqT.of ha1, at1, _, rfl, ap, _, rfl, .inr (SqT.of hx), _, _, rfl, rfl, _, rfl, ite2 (fun y => ?_) (fun y => ?_)⟩
    · have y' : ((c.props.map V.int).length : Int) ≤ (m : Int) := of_decide_eq_true y
      rw [List.length_map] at y'
      have y2 : ¬ m < c.props.length := by omega
      have q2 := q _ (by rw [hL1]; simp [E.looks]) (o0.trans o1)
      rw [E.val, getD_out y2] at q2
      exact q2
    · have y' : ¬ ((c.props.map V.int).length : Int) ≤ (m : Int) := of_decide_eq_false (Bool.eq_false_iff.mpr y)
      rw [List.length_map] at y'
      have y2 : m < c.props.length := by omega
      refine ⟨fun σ2 H2 => σ2 = [some (.ref a), some (.ref sa), some (.ref l), some (.ref ap), none, none] ∧ H2 = _, ⟨_, rfl, a, _, _, _, rfl, rfl, SqT.of ha1, at0, rfl, _, rfl, iteFd (by decide) ⟨rfl, rfl⟩⟩, ?_⟩
      rintro σ2 H2 ⟨rfl, rfl⟩
      refine ⟨_, rfl, _, rfl, a, _, _, _, rfl, rfl, SqT.of ha1, at1, ap, _, _, _, rfl, rfl, SqT.of hx, atI_nat (getD_of y2), ?_⟩
      exact q _ (by rw [hL1]; simp [E.looks]) (o0.trans o1)
  | store m =>
    obtain ⟨a, _, _, rfl, ha, p0, p1⟩ := IsT.inv2 he
    obtain rfl := p0.of_str
    obtain rfl := p1.of_int
    refine ⟨_, rfl, a, _, _, _, rfl, rfl, SqT.of ha, at0, rfl, _, rfl, iteFd (by decide) ?_⟩
    refine ⟨_, rfl, a, _, _, _, rfl, rfl, SqT.of ha, at0, rfl, _, rfl, iteFd (by decide) ?_⟩
    refine ⟨_, rfl, a, _, _, _, rfl, rfl, SqT.of ha, at0, sz, fun l0 hl0 => ⟨l0, _, rfl, .inl (SqL.of upd_same), rfl, rfl, _, rfl, iteTb (by decide) ?_⟩⟩
    have o0 : Oth [l] H (upd H l0 (.lst [.str "cell", .str "prop", .str "store"])) := Oth.new hl0
    have ha0 := o0.tup _ _ ha
    have hsa0 := o0.keep sa _ (by simp [hne]) hsa
    have hL0 : (upd H l0 (.lst [.str "cell", .str "prop", .str "store"])) l = some (.lst L) := by rw [upd_ne (ne_of_none hL hl0)]; exact hL
    refine ⟨_, rfl, sz, fun l1 hl1 => ⟨.inl ⟨rfl, _, SqL.of upd_same⟩, ?_⟩⟩
    have o1 : Oth [l] (upd H l0 (.lst [.str "cell", .str "prop", .str "store"])) (upd (upd H l0 (.lst [.str "cell", .str "prop", .str "store"])) l1 (.lst [.str "cell", .str "prop", .str "store"])) := Oth.new hl1
    have ha1 := o1.tup _ _ ha0
    have hsa1 := o1.keep sa _ (by simp [hne]) hsa0
    have hL1 : (upd (upd H l0 (.lst [.str "cell", .str "prop", .str "store"])) l1 (.lst [.str "cell", .str "prop", .str "store"])) l = some (.lst L) := by rw [upd_ne (ne_of_none hL0 hl1)]; exact hL0
    have hx := o1.tup _ _ (o0.tup _ _ has)
    refine ⟨_, rfl, a, _, _, _, rfl, rfl, SqT.of ha1, at0, l1, _, _, 2, _, rfl, rfl, SqL.of upd_same, rfl, rfl, rfl, rfl, lt2 rfl rfl, sa, _, _, _, rfl, rfl, SqL.of hsa1, at2, ?_⟩
    refine ⟨_, rfl, a, _, _, _, rfl, rfl, SqT.of ha1, at1, _, rfl, as, _, rfl, .inr (SqT.of hx), _, _, rfl, rfl, _, rfl, ite2 (fun y => ?_) (fun y => ?_)⟩
    · have y' : ((c.store.map V.int).length : Int) ≤ (m : Int) := of_decide_eq_true y
      rw [List.length_map] at y'
      have y2 : ¬ m < c.store.length := by omega
      have q2 := q _ (by rw [hL1]; rw [E.looks, if_neg y2]; simp) (o0.trans o1)
      rw [E.val, getD_out y2] at q2
      exact q2
    · have y' : ¬ ((c.store.map V.int).length : Int) ≤ (m : Int) := of_decide_eq_false (Bool.eq_false_iff.mpr y)
      rw [List.length_map] at y'
      have y2 : m < c.store.length := by omega
      have hs : L.length < sizeLine := Nat.lt_of_le_of_lt (by omega : L.length ≤ 100000) (by decide)
      have o2 : Oth [l] (upd (upd H l0 (.lst [.str "cell", .str "prop", .str "store"])) l1 (.lst [.str "cell", .str "prop", .str "store"])) (upd (upd (upd H l0 (.lst [.str "cell", .str "prop", .str "store"])) l1 (.lst [.str "cell", .str "prop", .str "store"])) l (.lst (L ++ [.int (m : Int)]))) := Oth.put (by simp) hL1
      refine ⟨fun σ2 H2 => σ2 = [some (.ref a), some (.ref sa), some (.ref l), some (.ref as), none, none] ∧ H2 = _, ⟨_, rfl, a, _, _, _, rfl, rfl, SqT.of ha1, at0, rfl, _, rfl, iteTd rfl ⟨_, rfl, .inl ⟨rfl, _, SqL.of hL1⟩, _, rfl, a, _, _, _, rfl, rfl, SqT.of ha1, at1, l, _, _, rfl, rfl, hL1, hs, rfl, rfl⟩⟩, ?_⟩
      rintro σ2 H2 ⟨rfl, rfl⟩
      refine ⟨_, rfl, _, rfl, a, _, _, _, rfl, rfl, SqT.of (o2.tup _ _ ha1), at1, as, _, _, _, rfl, rfl, SqT.of (o2.tup _ _ hx), atI_nat (getD_of y2), ?_⟩
      exact q _ (by rw [upd_same, E.looks, if_pos y2]; rfl) (o0.trans (o1.trans o2))
  | index =>
    obtain ⟨a, _, rfl, ha, p0⟩ := IsT.inv1 he
    obtain rfl := p0.of_str
    refine ⟨_, rfl, a, _, _, _, rfl, rfl, SqT.of ha, at0, rfl, _, rfl, iteFd (by decide) ?_⟩
    refine ⟨_, rfl, a, _, _, _, rfl, rfl, SqT.of ha, at0, rfl, _, rfl, iteTd rfl ?_⟩
    refine ⟨_, rfl, sa, _, _, _, rfl, rfl, SqL.of hsa, at3, ?_⟩
    exact q H (by simpa [E.looks] using hL) Oth.refl
  | plus e1 e2 =>
    obtain ⟨a, _, v1, v2, rfl, ha, p0, p1, p2⟩ := IsT.inv3 he
    obtain rfl := p0.of_str
    have z1 := E.size_pos e1
    have z2 := E.size_pos e2
    simp only [E.depth, E.size] at hd hz
    have z3 := E.looks_le c e1
    refine ⟨_, rfl, a, _, _, _, rfl, rfl, SqT.of ha, at0, rfl, _, rfl, iteFd (by decide) ?_⟩
    refine ⟨_, rfl, a, _, _, _, rfl, rfl, SqT.of ha, at0, rfl, _, rfl, iteFd (by decide) ?_⟩
    refine ⟨_, rfl, a, _, _, _, rfl, rfl, SqT.of ha, at0, sz, fun l0 hl0 => ⟨l0, _, rfl, .inl (SqL.of upd_same), rfl, rfl, _, rfl, iteFb (by decide) ?_⟩⟩
    have o0 : Oth [l] H (upd H l0 (.lst [.str "cell", .str "prop", .str "store"])) := Oth.new hl0
    have ha0 := o0.tup _ _ ha
    have hsa0 := o0.keep sa _ (by simp [hne]) hsa
    have hL0 : (upd H l0 (.lst [.str "cell", .str "prop", .str "store"])) l = some (.lst L) := by rw [upd_ne (ne_of_none hL hl0)]; exact hL
    refine ⟨_, rfl, a, _, _, _, rfl, rfl, SqT.of ha0, at1, _, rfl, _, rfl, e1, c, _, sa, ac, ap, as, l, L, rfl, p1.oth o0, hsa0, o0.tup _ _ hac, o0.tup _ _ hap, o0.tup _ _ has, hne, hL0, by omega, by omega, fun H1 hL1 o1 => ?_⟩
    have o01 := o0.trans o1
    have ha1 := o1.tup _ _ ha0
    have hsa1 := o1.keep sa _ (by simp [hne]) hsa0
    refine ⟨_, rfl, a, _, _, _, rfl, rfl, SqT.of ha1, at0, rfl, _, rfl, iteFd (by decide) ?_⟩
    refine ⟨_, rfl, a, _, _, _, rfl, rfl, SqT.of ha1, at2, _, rfl, _, rfl, e2, c, _, sa, ac, ap, as, l, _, rfl, p2.oth o01, hsa1, o01.tup _ _ hac, o01.tup _ _ hap, o01.tup _ _ has, hne, hL1, by omega, by simp only [List.length_append, List.length_map]; omega, fun H2 hL2 o2 => ?_⟩
    have ha2 := o2.tup _ _ ha1
    have fin : H2 l = some (.lst (L ++ (e1.looks c ++ e2.looks c).map V.int)) := by rw [hL2, List.map_append, List.append_assoc]
    have q2 := q H2 fin (o01.trans o2)
    refine ⟨_, rfl, a, _, _, _, rfl, rfl, SqT.of ha2, at0, rfl, _, rfl, iteTd rfl ?_⟩
    exact ⟨_, rfl, _, rfl, _, _, rfl, rfl, .inl ⟨_, rfl, _, _, rfl, rfl, (by show (0 : Int) < 1000; decide), q2⟩⟩
  | minus e1 e2 =>
    obtain ⟨a, _, v1, v2, rfl, ha, p0, p1, p2⟩ := IsT.inv3 he
    obtain rfl := p0.of_str
    have z1 := E.size_pos e1
    have z2 := E.size_pos e2
    simp only [E.depth, E.size] at hd hz
    have z3 := E.looks_le c e1
    refine ⟨_, rfl, a, _, _, _, rfl, rfl, SqT.of ha, at0, rfl, _, rfl, iteFd (by decide) ?_⟩
    refine ⟨_, rfl, a, _, _, _, rfl, rfl, SqT.of ha, at0, rfl, _, rfl, iteFd (by decide) ?_⟩
    refine ⟨_, rfl, a, _, _, _, rfl, rfl, SqT.of ha, at0, sz, fun l0 hl0 => ⟨l0, _, rfl, .inl (SqL.of upd_same), rfl, rfl, _, rfl, iteFb (by decide) ?_⟩⟩
    have o0 : Oth [l] H (upd H l0 (.lst [.str "cell", .str "prop", .str "store"])) := Oth.new hl0
    have ha0 := o0.tup _ _ ha
    have hsa0 := o0.keep sa _ (by simp [hne]) hsa
    have hL0 : (upd H l0 (.lst [.str "cell", .str "prop", .str "store"])) l = some (.lst L) := by rw [upd_ne (ne_of_none hL hl0)]; exact hL
    refine ⟨_, rfl, a, _, _, _, rfl, rfl, SqT.of ha0, at1, _, rfl, _, rfl, e1, c, _, sa, ac, ap, as, l, L, rfl, p1.oth o0, hsa0, o0.tup _ _ hac, o0.tup _ _ hap, o0.tup _ _ has, hne, hL0, by omega, by omega, fun H1 hL1 o1 => ?_⟩
    have o01 := o0.trans o1
    have ha1 := o1.tup _ _ ha0
    have hsa1 := o1.keep sa _ (by simp [hne]) hsa0
    refine ⟨_, rfl, a, _, _, _, rfl, rfl, SqT.of ha1, at0, rfl, _, rfl, iteFd (by decide) ?_⟩
    refine ⟨_, rfl, a, _, _, _, rfl, rfl, SqT.of ha1, at2, _, rfl, _, rfl, e2, c, _, sa, ac, ap, as, l, _, rfl, p2.oth o01, hsa1, o01.tup _ _ hac, o01.tup _ _ hap, o01.tup _ _ has, hne, hL1, by omega, by simp only [List.length_append, List.length_map]; omega, fun H2 hL2 o2 => ?_⟩
    have ha2 := o2.tup _ _ ha1
    have fin : H2 l = some (.lst (L ++ (e1.looks c ++ e2.looks c).map V.int)) := by rw [hL2, List.map_append, List.append_assoc]
    have q2 := q H2 fin (o01.trans o2)
    refine ⟨_, rfl, a, _, _, _, rfl, rfl, SqT.of ha2, at0, rfl, _, rfl, iteFd (by decide) ?_⟩
    refine ⟨_, rfl, a, _, _, _, rfl, rfl, SqT.of ha2, at0, rfl, _, rfl, iteTd rfl ?_⟩
    exact ⟨_, rfl, _, rfl, _, _, rfl, rfl, .inl ⟨_, rfl, _, _, rfl, rfl, (by show (0 : Int) < 1000; decide), q2⟩⟩
  | same e1 e2 =>
    obtain ⟨a, _, v1, v2, rfl, ha, p0, p1, p2⟩ := IsT.inv3 he
    obtain rfl := p0.of_str
    have z1 := E.size_pos e1
    have z2 := E.size_pos e2
    simp only [E.depth, E.size] at hd hz
    have z3 := E.looks_le c e1
    refine ⟨_, rfl, a, _, _, _, rfl, rfl, SqT.of ha, at0, rfl, _, rfl, iteFd (by decide) ?_⟩
    refine ⟨_, rfl, a, _, _, _, rfl, rfl, SqT.of ha, at0, rfl, _, rfl, iteFd (by decide) ?_⟩
    refine ⟨_, rfl, a, _, _, _, rfl, rfl, SqT.of ha, at0, sz, fun l0 hl0 => ⟨l0, _, rfl, .inl (SqL.of upd_same), rfl, rfl, _, rfl, iteFb (by decide) ?_⟩⟩
    have o0 : Oth [l] H (upd H l0 (.lst [.str "cell", .str "prop", .str "store"])) := Oth.new hl0
    have ha0 := o0.tup _ _ ha
    have hsa0 := o0.keep sa _ (by simp [hne]) hsa
    have hL0 : (upd H l0 (.lst [.str "cell", .str "prop", .str "store"])) l = some (.lst L) := by rw [upd_ne (ne_of_none hL hl0)]; exact hL
    refine ⟨_, rfl, a, _, _, _, rfl, rfl, SqT.of ha0, at1, _, rfl, _, rfl, e1, c, _, sa, ac, ap, as, l, L, rfl, p1.oth o0, hsa0, o0.tup _ _ hac, o0.tup _ _ hap, o0.tup _ _ has, hne, hL0, by omega, by omega, fun H1 hL1 o1 => ?_⟩
    have o01 := o0.trans o1
    have ha1 := o1.tup _ _ ha0
    have hsa1 := o1.keep sa _ (by simp [hne]) hsa0
    refine ⟨_, rfl, a, _, _, _, rfl, rfl, SqT.of ha1, at0, rfl, _, rfl, iteFd (by decide) ?_⟩
    refine ⟨_, rfl, a, _, _, _, rfl, rfl, SqT.of ha1, at2, _, rfl, _, rfl, e2, c, _, sa, ac, ap, as, l, _, rfl, p2.oth o01, hsa1, o01.tup _ _ hac, o01.tup _ _ hap, o01.tup _ _ has, hne, hL1, by omega, by simp only [List.length_append, List.length_map]; omega, fun H2 hL2 o2 => ?_⟩
    have ha2 := o2.tup _ _ ha1
    have fin : H2 l = some (.lst (L ++ (e1.looks c ++ e2.looks c).map V.int)) := by rw [hL2, List.map_append, List.append_assoc]
    have q2 := q H2 fin (o01.trans o2)
    refine ⟨_, rfl, a, _, _, _, rfl, rfl, SqT.of ha2, at0, rfl, _, rfl, iteFd (by decide) ?_⟩
    refine ⟨_, rfl, a, _, _, _, rfl, rfl, SqT.of ha2, at0, rfl, _, rfl, iteFd (by decide) ?_⟩
    refine ⟨_, rfl, a, _, _, _, rfl, rfl, SqT.of ha2, at0, rfl, _, rfl, iteTd rfl ?_⟩
    refine ⟨_, rfl, _, rfl, rfl, .inr ⟨_, rfl, ?_⟩⟩
    by_cases y : e1.val c = e2.val c
    · rw [E.val, if_pos y] at q2
      rw [decide_eq_true (by rw [y] : V.int (e1.val c) = V.int (e2.val c))]
      exact q2
    · rw [E.val, if_neg y] at q2
      rw [decide_eq_false (fun z => y (V.int.inj z) : ¬ V.int (e1.val c) = V.int (e2.val c))]
      exact q2
  | less e1 e2 =>
    obtain ⟨a, _, v1, v2, rfl, ha, p0, p1, p2⟩ := IsT.inv3 he
    obtain rfl := p0.of_str
    have z1 := E.size_pos e1
    have z2 := E.size_pos e2
    simp only [E.depth, E.size] at hd hz
    have z3 := E.looks_le c e1
    refine ⟨_, rfl, a, _, _, _, rfl, rfl, SqT.of ha, at0, rfl, _, rfl, iteFd (by decide) ?_⟩
    refine ⟨_, rfl, a, _, _, _, rfl, rfl, SqT.of ha, at0, rfl, _, rfl, iteFd (by decide) ?_⟩
    refine ⟨_, rfl, a, _, _, _, rfl, rfl, SqT.of ha, at0, sz, fun l0 hl0 => ⟨l0, _, rfl, .inl (SqL.of upd_same), rfl, rfl, _, rfl, iteFb (by decide) ?_⟩⟩
    have o0 : Oth [l] H (upd H l0 (.lst [.str "cell", .str "prop", .str "store"])) := Oth.new hl0
    have ha0 := o0.tup _ _ ha
    have hsa0 := o0.keep sa _ (by simp [hne]) hsa
    have hL0 : (upd H l0 (.lst [.str "cell", .str "prop", .str "store"])) l = some (.lst L) := by rw [upd_ne (ne_of_none hL hl0)]; exact hL
    refine ⟨_, rfl, a, _, _, _, rfl, rfl, SqT.of ha0, at1, _, rfl, _, rfl, e1, c, _, sa, ac, ap, as, l, L, rfl, p1.oth o0, hsa0, o0.tup _ _ hac, o0.tup _ _ hap, o0.tup _ _ has, hne, hL0, by omega, by omega, fun H1 hL1 o1 => ?_⟩
    have o01 := o0.trans o1
    have ha1 := o1.tup _ _ ha0
    have hsa1 := o1.keep sa _ (by simp [hne]) hsa0
    refine ⟨_, rfl, a, _, _, _, rfl, rfl, SqT.of ha1, at0, rfl, _, rfl, iteFd (by decide) ?_⟩
    refine ⟨_, rfl, a, _, _, _, rfl, rfl, SqT.of ha1, at2, _, rfl, _, rfl, e2, c, _, sa, ac, ap, as, l, _, rfl, p2.oth o01, hsa1, o01.tup _ _ hac, o01.tup _ _ hap, o01.tup _ _ has, hne, hL1, by omega, by simp only [List.length_append, List.length_map]; omega, fun H2 hL2 o2 => ?_⟩
    have ha2 := o2.tup _ _ ha1
    have fin : H2 l = some (.lst (L ++ (e1.looks c ++ e2.looks c).map V.int)) := by rw [hL2, List.map_append, List.append_assoc]
    have q2 := q H2 fin (o01.trans o2)
    refine ⟨_, rfl, a, _, _, _, rfl, rfl, SqT.of ha2, at0, rfl, _, rfl, iteFd (by decide) ?_⟩
    refine ⟨_, rfl, a, _, _, _, rfl, rfl, SqT.of ha2, at0, rfl, _, rfl, iteFd (by decide) ?_⟩
    refine ⟨_, rfl, a, _, _, _, rfl, rfl, SqT.of ha2, at0, rfl, _, rfl, iteFd (by decide) ?_⟩
    refine ⟨_, rfl, _, rfl, _, _, rfl, rfl, .inr ⟨_, rfl, ?_⟩⟩
    by_cases y : e1.val c < e2.val c
    · rw [E.val, if_pos y] at q2
      rw [decide_eq_true y]
      exact q2
    · rw [E.val, if_neg y] at q2
      rw [decide_eq_false y]
      exact q2
  | ite e0 e1 e2 =>
    obtain ⟨a, _, v0, v1, v2, rfl, ha, p0, p3, p1, p2⟩ := IsT.inv4 he
    obtain rfl := p0.of_str
    have z1 := E.size_pos e1
    have z2 := E.size_pos e2
    simp only [E.depth, E.size] at hd hz
    have z0 := E.size_pos e0
    have z3 := E.looks_le c e0
    refine ⟨_, rfl, a, _, _, _, rfl, rfl, SqT.of ha, at0, rfl, _, rfl, iteFd (by decide) ?_⟩
    refine ⟨_, rfl, a, _, _, _, rfl, rfl, SqT.of ha, at0, rfl, _, rfl, iteFd (by decide) ?_⟩
    refine ⟨_, rfl, a, _, _, _, rfl, rfl, SqT.of ha, at0, sz, fun l0 hl0 => ⟨l0, _, rfl, .inl (SqL.of upd_same), rfl, rfl, _, rfl, iteFb (by decide) ?_⟩⟩
    have o0 : Oth [l] H (upd H l0 (.lst [.str "cell", .str "prop", .str "store"])) := Oth.new hl0
    have ha0 := o0.tup _ _ ha
    have hsa0 := o0.keep sa _ (by simp [hne]) hsa
    have hL0 : (upd H l0 (.lst [.str "cell", .str "prop", .str "store"])) l = some (.lst L) := by rw [upd_ne (ne_of_none hL hl0)]; exact hL
    refine ⟨_, rfl, a, _, _, _, rfl, rfl, SqT.of ha0, at1, _, rfl, _, rfl, e0, c, _, sa, ac, ap, as, l, L, rfl, p3.oth o0, hsa0, o0.tup _ _ hac, o0.tup _ _ hap, o0.tup _ _ has, hne, hL0, by omega, by omega, fun H1 hL1 o1 => ?_⟩
    have o01 := o0.trans o1
    have ha1 := o1.tup _ _ ha0
    have hsa1 := o1.keep sa _ (by simp [hne]) hsa0
    refine ⟨_, rfl, a, _, _, _, rfl, rfl, SqT.of ha1, at0, rfl, _, rfl, iteTd rfl ?_⟩
    by_cases y : e0.val c = 0
    · have hk : (if (!decide (V.int (e0.val c) = V.int 0)) = true then (1 : Int) else 0) = 0 := by
        rw [decide_eq_true (by rw [y] : V.int (e0.val c) = V.int 0)]; rfl
      refine ⟨_, rfl, sz, fun l2 hl2 => ⟨_, rfl, rfl, .inr ⟨_, rfl, l2, _, _, _, rfl, rfl, SqL.of upd_same, (by rw [hk]; exact at0), ?_⟩⟩⟩
      have o2 : Oth [l] H1 (upd H1 l2 (.lst [.int 3, .int 2])) := Oth.new hl2
      have hL2 : (upd H1 l2 (.lst [.int 3, .int 2])) l = some (.lst (L ++ (e0.looks c).map V.int)) := by rw [upd_ne (ne_of_none hL1 hl2)]; exact hL1
      have o02 := o01.trans o2
      refine ⟨a, _, _, _, rfl, rfl, SqT.of (o2.tup _ _ ha1), at3, _, rfl, _, rfl, e2, c, _, sa, ac, ap, as, l, _, rfl, p2.oth o02, o2.keep sa _ (by simp [hne]) hsa1, o02.tup _ _ hac, o02.tup _ _ hap, o02.tup _ _ has, hne, hL2, by omega, by simp only [List.length_append, List.length_map]; omega, fun H3 hL3 o3 => ?_⟩
      have q2 := q H3 (by rw [hL3, E.looks, if_pos y, List.map_append, List.append_assoc]) (o02.trans o3)
      rw [E.val, if_pos y] at q2
      exact q2
    · have hk : (if (!decide (V.int (e0.val c) = V.int 0)) = true then (1 : Int) else 0) = 1 := by
        rw [decide_eq_false (fun z => y (V.int.inj z) : ¬ V.int (e0.val c) = V.int 0)]; rfl
      refine ⟨_, rfl, sz, fun l2 hl2 => ⟨_, rfl, rfl, .inr ⟨_, rfl, l2, _, _, _, rfl, rfl, SqL.of upd_same, (by rw [hk]; exact at1), ?_⟩⟩⟩
      have o2 : Oth [l] H1 (upd H1 l2 (.lst [.int 3, .int 2])) := Oth.new hl2
      have hL2 : (upd H1 l2 (.lst [.int 3, .int 2])) l = some (.lst (L ++ (e0.looks c).map V.int)) := by rw [upd_ne (ne_of_none hL1 hl2)]; exact hL1
      have o02 := o01.trans o2
      refine ⟨a, _, _, _, rfl, rfl, SqT.of (o2.tup _ _ ha1), at2, _, rfl, _, rfl, e1, c, _, sa, ac, ap, as, l, _, rfl, p1.oth o02, o2.keep sa _ (by simp [hne]) hsa1, o02.tup _ _ hac, o02.tup _ _ hap, o02.tup _ _ has, hne, hL2, by omega, by simp only [List.length_append, List.length_map]; omega, fun H3 hL3 o3 => ?_⟩
      have q2 := q H3 (by rw [hL3, E.looks, if_neg y, List.map_append, List.append_assoc]) (o02.trans o3)
      rw [E.val, if_neg y] at q2
      exact q2
end
abbrev sExpr : Stmt := topS 17
abbrev sKey : Stmt := topS 18
theorem scExpr : FnScope ["box", "depth", "kind", "leaves", "one", "two"] ["box", "depth"] (defScope sExpr) := ⟨rfl, rfl, rfl, by decide +kernel, rfl, by decide +kernel, by decide +kernel⟩
theorem scKey : FnScope ["box"] ["box"] (defScope sKey) := ⟨rfl, rfl, rfl, by decide +kernel, rfl, by decide +kernel, by decide +kernel⟩
section
variable {P : Program} {w : World} {K : PySem.W.Frag} {mg : Str → Option Value} {base : Heap}
theorem ok_expr {f g : Addr} {fd gd : FuncData} {k n : Nat} (F : Fun K "_law_expr" "_law_expr" sExpr f fd)
    (GE : FnOk P w K mg base CX0 k f fd ["box", "depth"] (spExprY n)) (bE : Binds K fd ["box", "depth"] []) (kE : PySem.W.keepIn K (.ref f) = true) (mE : mg "_law_expr" = some (.ref f))
    (GR : FnOk P w K mg base CX0 k g gd ["box", "many"] spDrawY) (bR : Binds K gd ["box", "many"] []) (kR : PySem.W.keepIn K (.ref g) = true) (mR : mg "_law_draw" = some (.ref g)) (m_int : mg "int" = none) :
    FnOk P w K mg base CX0 (k + 1) f fd ["box", "depth"] (spExprY (n + 1)) := by
  refine F.ok scExpr (fun vs H Q E h => ?_) (fun cdv A outer s H vs Q E' hr h => ?_)
  · obtain ⟨bz, b, dg, pl, d, rfl, _⟩ := h
    rfl
  obtain ⟨bz, b, dg, pl, d, rfl, hdn, bx, q⟩ := h
  have nd := scExpr.nd
  refine ⟨_, (pss_cons (ps_set (i := 2) nd rfl (.inl rfl) (pe_call GR hr rfl mR kR bR .nil pass0 (pa_cons (pv 0) (pa_cons pe_int pa_nil))))
  (pss_cons (ps_if (PW.pt (pw_or (pt_cmpR op_eq (pv 1) pe_int (nomark _)) (pw_or1 (pt_cmpR op_lt (pv 2) pe_int (nomark _)))))
  (pss_cons (ps_set (i := 3) nd rfl (.inl rfl) (pe_lst (pa_cons (pe_tup (pa_cons pe_str (pa_cons pe_int pa_nil))) (pa_cons (pe_tup (pa_cons pe_str (pa_cons pe_int pa_nil))) (pa_cons (pe_tup (pa_cons pe_str (pa_cons pe_int pa_nil))) (pa_cons (pe_tup (pa_cons pe_str (pa_cons pe_int pa_nil))) (pa_cons (pe_tup (pa_cons pe_str (pa_cons pe_int pa_nil))) (pa_cons (pe_tup (pa_cons pe_str pa_nil)) pa_nil))))))))
  (pss_one (ps_ret (pe_ix ix_list (pe_op op_cat (pe_lst (pa_cons (pe_tup (pa_cons pe_str (pa_cons (pe_call GR hr rfl mR kR bR .nil pass0 (pa_cons (pv 0) (pa_cons pe_int pa_nil))) pa_nil))) pa_nil)) (pv 3)) (pe_op op_mod (pe_callTy call_int1 (by rfl) m_int bo_int (pa_cons (pv 2) pa_nil)) pe_int) (fun _ _ => rfl)))))
  pss_nil)
  (pss_cons (ps_set (i := 4) nd rfl (.inl rfl) (pe_call GE hr rfl mE kE bE .nil pass0 (pa_cons (pv 0) (pa_cons (pe_op op_sub (pv 1) pe_int) pa_nil))))
  (pss_cons (ps_set (i := 5) nd rfl (.inl rfl) (pe_call GE hr rfl mE kE bE .nil pass0 (pa_cons (pv 0) (pa_cons (pe_op op_sub (pv 1) pe_int) pa_nil))))
  (pss_cons (ps_if (pt_cmpR op_eq (pv 2) pe_int (nomark _))
  (pss_one (ps_ret (pe_tup (pa_cons pe_str (pa_cons (pv 4) (pa_cons (pv 5) (pa_cons (pe_call GE hr rfl mE kE bE .nil pass0 (pa_cons (pv 0) (pa_cons (pe_op op_sub (pv 1) pe_int) pa_nil))) pa_nil)))))))
  pss_nil)
  (pss_one (ps_ret (pe_tup (pa_cons (pe_ix ix_list (pe_lst (pa_cons pe_str (pa_cons pe_str (pa_cons pe_str (pa_cons pe_str pa_nil))))) (pe_op op_mod (pe_callTy call_int1 (by rfl) m_int bo_int (pa_cons (pv 2) pa_nil)) pe_int) (fun _ _ => rfl)) (pa_cons (pv 4) (pa_cons (pv 5) pa_nil))))))))))), ?_⟩
  refine ⟨_, rfl, _, b, dg, pl, _, rfl, by decide, bx, fun kind H0 k0 k1 bx0 o0 => ?_⟩
  refine ⟨_, rfl, rfl, _, rfl, ?_⟩
  refine (fun leaf => ite2 (fun c => iteT leaf) (fun c => ⟨_, rfl, _, _, rfl, rfl, _, rfl, ite2 (fun c2 => leaf) (fun c2 => ?node)⟩)) ?leaf
  case node =>
    have hk6 : ¬ kind < 7 := of_decide_eq_false (Bool.eq_false_iff.mpr c2)
    obtain ⟨d', rfl⟩ : ∃ d', d = d' + 1 := by
      cases d with
      | zero => exact absurd (show decide (V.int ((0 : Nat) : Int) = V.int 0) = true from decide_eq_true rfl) c
      | succ d' => exact ⟨d', rfl⟩
    have hd' : ([V.ref b, V.int (((d' + 1 : Nat) : Int) - 1)] : List V) = [V.ref b, V.int (d' : Int)] := by rw [show ((d' + 1 : Nat) : Int) - 1 = (d' : Int) by omega]
    refine ⟨_, rfl, _, rfl, _, _, rfl, rfl, _, b, dg, pl, d', hd', by omega, bx0, fun e1 v1 H1 d1 z1 t1 bx1 o1 => ?_⟩
    refine ⟨_, rfl, _, rfl, _, _, rfl, rfl, _, b, dg, pl, d', hd', by omega, bx1, fun e2 v2 H2 d2 z2 t2 bx2 o2 => ?_⟩
    refine ⟨_, rfl, rfl, _, rfl, ite2 (fun c3 => ?_) (fun c3 => ?_)⟩
    · refine ⟨_, rfl, _, rfl, _, rfl, _, rfl, _, _, rfl, rfl, _, b, dg, pl, d', hd', by omega, bx2, fun e3 v3 H3 d3 z3 t3 bx3 o3 => ⟨sz, fun p hp => ?_⟩⟩
      have on : Oth [b] H3 (upd H3 p (.tup [.str "if", v1, v2, v3])) := Oth.new hp
      refine q (.ite e1 e2 e3) _ _ (by simp only [E.depth]; omega) ⟨z1, z2, z3⟩ ?_ (bx3.new hp) (o0.trans (o1.trans (o2.trans (o3.trans on))))
      exact IsT.mk4 upd_same (.str _) (((t1.oth o2).oth o3).oth on) ((t2.oth o3).oth on) (t3.oth on)
    · have fin : ∀ (x : Str) (mk : E → E → E), (∀ a b, (mk a b).depth = max a.depth b.depth + 1) → (∀ a b, (mk a b).toT = .tup [.str x, a.toT, b.toT]) → (∀ a b, a.Ok → b.Ok → (mk a b).Ok) → ∀ H3 p, Oth [b] H2 H3 → By H3 b dg pl bz → H3 p = none →
          Q (.ref p) (upd H3 p (.tup [.str x, v1, v2])) := fun x mk h1 h4 h5 H3 p o3 bx3 hp => by
        have on : Oth [b] H3 (upd H3 p (.tup [.str x, v1, v2])) := Oth.new hp
        refine q (mk e1 e2) _ _ (by rw [h1]; omega) (h5 _ _ z1 z2) ?_ (bx3.new hp) (o0.trans (o1.trans (o2.trans (o3.trans on))))
        rw [h4]
        exact IsT.mk3 upd_same (.str _) (((t1.oth o2).oth o3).oth on) ((t2.oth o3).oth on)
      have cs : kind % 4 = 0 ∨ kind % 4 = 1 ∨ kind % 4 = 2 ∨ kind % 4 = 3 := by omega
      refine ⟨sz, fun l hl => ⟨_, rfl, .inl ⟨_, rfl, _, _, rfl, rfl, (by show (0 : Int) < 4; decide), l, _, _, ?zzv, rfl, rfl, SqL.of upd_same, ?zza, ?zzb⟩⟩⟩
      case zzv => exact if kind % 4 = 0 then .str "plus" else if kind % 4 = 1 then .str "minus" else if kind % 4 = 2 then .str "same" else .str "less"
      case zza => rcases cs with e | e | e | e <;> rw [e] <;> first | exact at0 | exact at1 | exact at2 | exact at3
      case zzb =>
        refine ⟨_, rfl, _, rfl, sz, fun p hp => ?_⟩
        have ol : Oth [b] H2 (upd H2 l (.lst [.str "plus", .str "minus", .str "same", .str "less"])) := Oth.new hl
        rcases cs with e | e | e | e
        · rw [if_pos e]; exact fin "plus" .plus (fun _ _ => rfl) (fun _ _ => rfl) (fun _ _ h1 h2 => ⟨h1, h2⟩) _ p ol (bx2.new hl) hp
        · rw [if_neg (by omega), if_pos e]; exact fin "minus" .minus (fun _ _ => rfl) (fun _ _ => rfl) (fun _ _ h1 h2 => ⟨h1, h2⟩) _ p ol (bx2.new hl) hp
        · rw [if_neg (by omega), if_neg (by omega), if_pos e]; exact fin "same" .same (fun _ _ => rfl) (fun _ _ => rfl) (fun _ _ h1 h2 => ⟨h1, h2⟩) _ p ol (bx2.new hl) hp
        · rw [if_neg (by omega), if_neg (by omega), if_neg (by omega)]; exact fin "less" .less (fun _ _ => rfl) (fun _ _ => rfl) (fun _ _ h1 h2 => ⟨h1, h2⟩) _ p ol (bx2.new hl) hp
  case leaf =>
    refine ⟨sz, fun p1 hp1 => ⟨sz, fun p2 hp2 => ⟨sz, fun p3 hp3 => ⟨sz, fun p4 hp4 => ⟨sz, fun p5 hp5 => ⟨sz, fun p6 hp6 => ⟨sz, fun l hl => ?_⟩⟩⟩⟩⟩⟩⟩
    have bx1 := ((((((bx0.new (o := .tup [.str "cell", .int 0]) hp1).new (o := .tup [.str "cell", .int 1]) hp2).new (o := .tup [.str "prop", .int 0]) hp3).new (o := .tup [.str "store", .int 0]) hp4).new (o := .tup [.str "store", .int 1]) hp5).new (o := .tup [.str "index"]) hp6).new (o := .lst [.ref p1, .ref p2, .ref p3, .ref p4, .ref p5, .ref p6]) hl
    have g7 := Oth.new (S := [b]) (o := .lst [.ref p1, .ref p2, .ref p3, .ref p4, .ref p5, .ref p6]) hl
    have g6 := (Oth.new (S := [b]) (o := .tup [.str "index"]) hp6).trans g7
    have g5 := (Oth.new (S := [b]) (o := .tup [.str "store", .int 1]) hp5).trans g6
    have g4 := (Oth.new (S := [b]) (o := .tup [.str "store", .int 0]) hp4).trans g5
    have g3 := (Oth.new (S := [b]) (o := .tup [.str "prop", .int 0]) hp3).trans g4
    have g2 := (Oth.new (S := [b]) (o := .tup [.str "cell", .int 1]) hp2).trans g3
    have g1 := (Oth.new (S := [b]) (o := .tup [.str "cell", .int 0]) hp1).trans g2
    have nlb : l ≠ b := fun z => by
      have z' := ((((((bx0.new (o := .tup [.str "cell", .int 0]) hp1).new (o := .tup [.str "cell", .int 1]) hp2).new (o := .tup [.str "prop", .int 0]) hp3).new (o := .tup [.str "store", .int 0]) hp4).new (o := .tup [.str "store", .int 1]) hp5).new (o := .tup [.str "index"]) hp6).nb hl
      exact z' z.symm
    refine ⟨_, rfl, _, b, dg, pl, _, rfl, by decide, bx1, fun r1 H2 l1 u1 bx2 o2 => ⟨sz, fun p7 hp7 => ⟨sz, fun l2 hl2 => ?_⟩⟩⟩
    have g8 := Oth.new (S := [b]) (o := .tup [.str "num", .int r1]) hp7
    have g9 := Oth.new (S := [b]) (o := .lst [.ref p7]) hl2
    have g89 := g8.trans g9
    have ll := g89.keep l _ (by simp [nlb]) (o2.keep l _ (by simp [nlb]) upd_same)
    refine ⟨_, rfl, l2, l, _, _, rfl, rfl, upd_same, ll, sz, fun l3 hl3 => ?_⟩
    have g10 := Oth.new (S := [b]) (o := .lst ([.ref p7] ++ [.ref p1, .ref p2, .ref p3, .ref p4, .ref p5, .ref p6])) hl3
    have cs : kind % 7 = 0 ∨ kind % 7 = 1 ∨ kind % 7 = 2 ∨ kind % 7 = 3 ∨ kind % 7 = 4 ∨ kind % 7 = 5 ∨ kind % 7 = 6 := by omega
    refine ⟨_, rfl, .inl ⟨_, rfl, _, _, rfl, rfl, (by show (0 : Int) < 7; decide), l3, _, _, ?yyv, rfl, rfl, SqL.of upd_same, ?yya, ?yyb⟩⟩
    case yyv => exact if kind % 7 = 0 then .ref p7 else if kind % 7 = 1 then .ref p1 else if kind % 7 = 2 then .ref p2 else if kind % 7 = 3 then .ref p3 else if kind % 7 = 4 then .ref p4 else if kind % 7 = 5 then .ref p5 else .ref p6
    case yya => rcases cs with e | e | e | e | e | e | e <;> rw [e] <;> first | exact at0 | exact at1 | exact at2 | exact at3 | exact at4 | exact at5 | exact atI_nat (j := 6) rfl
    case yyb =>
      have t1 := o2.trans (g89.trans g10)
      have g0 := o0.trans (g1.trans t1)
      have bxf := ((bx2.new (o := .tup [.str "num", .int r1]) hp7).new (o := .lst [.ref p7]) hl2).new (o := .lst ([.ref p7] ++ [.ref p1, .ref p2, .ref p3, .ref p4, .ref p5, .ref p6])) hl3
      rcases cs with e | e | e | e | e | e | e
      · rw [if_pos e]; exact q (.num r1) _ _ (Nat.zero_le _) ⟨l1, by omega⟩ (IsT.mk2 ((g9.trans g10).tup _ _ upd_same) (.str _) (.int _)) bxf g0
      · rw [if_neg (by omega), if_pos e]; exact q (.cell 0) _ _ (Nat.zero_le _) trivial (IsT.mk2 ((g2.trans t1).tup _ _ upd_same) (.str _) (.int _)) bxf g0
      · rw [if_neg (by omega), if_neg (by omega), if_pos e]; exact q (.cell 1) _ _ (Nat.zero_le _) trivial (IsT.mk2 ((g3.trans t1).tup _ _ upd_same) (.str _) (.int _)) bxf g0
      · rw [if_neg (by omega), if_neg (by omega), if_neg (by omega), if_pos e]; exact q (.prop 0) _ _ (Nat.zero_le _) trivial (IsT.mk2 ((g4.trans t1).tup _ _ upd_same) (.str _) (.int _)) bxf g0
      · rw [if_neg (by omega), if_neg (by omega), if_neg (by omega), if_neg (by omega), if_pos e]; exact q (.store 0) _ _ (Nat.zero_le _) trivial (IsT.mk2 ((g5.trans t1).tup _ _ upd_same) (.str _) (.int _)) bxf g0
      · rw [if_neg (by omega), if_neg (by omega), if_neg (by omega), if_neg (by omega), if_neg (by omega), if_pos e]; exact q (.store 1) _ _ (Nat.zero_le _) trivial (IsT.mk2 ((g6.trans t1).tup _ _ upd_same) (.str _) (.int _)) bxf g0
      · rw [if_neg (by omega), if_neg (by omega), if_neg (by omega), if_neg (by omega), if_neg (by omega), if_neg (by omega)]; exact q .index _ _ (Nat.zero_le _) trivial (IsT.mk1 ((g7.trans t1).tup _ _ upd_same) (.str _)) bxf g0
theorem ok_key {f fE fR : Addr} {fd dE dR : FuncData} {k : Nat} (F : Fun K "_law_key" "_law_key" sKey f fd)
    (GE : FnOk P w K mg base CX0 k fE dE ["box", "depth"] (spExprY 2)) (bE : Binds K dE ["box", "depth"] []) (kE : PySem.W.keepIn K (.ref fE) = true) (mE : mg "_law_expr" = some (.ref fE))
    (GR : FnOk P w K mg base CX0 k fR dR ["box", "many"] spDrawY) (bR : Binds K dR ["box", "many"] []) (kR : PySem.W.keepIn K (.ref fR) = true) (mR : mg "_law_draw" = some (.ref fR)) :
    FnOk P w K mg base CX0 (k + 1) f fd ["box"] spKeyY := by
  refine F.ok scKey (fun vs H Q E h => ?_) (fun cdv A outer s H vs Q E' hr h => ?_)
  · obtain ⟨bz, b, dg, pl, rfl, _⟩ := h
    rfl
  obtain ⟨bz, b, dg, pl, rfl, bx, q⟩ := h
  have nd := scKey.nd
  refine ⟨_, (pss_cons (ps_if (pt_cmpR op_eq (pe_call GR hr rfl mR kR bR .nil pass0 (pa_cons (pv 0) (pa_cons pe_int pa_nil))) pe_int (nomark _))
  (pss_one (ps_ret (pe_call GE hr rfl mE kE bE .nil pass0 (pa_cons (pv 0) (pa_cons pe_int pa_nil)))))
  pss_nil)
  (pss_one (ps_ret pe_non))), ?_⟩
  refine ⟨_, rfl, _, b, dg, pl, _, rfl, by decide, bx, fun kind H0 k0 k1 bx0 o0 => ⟨rfl, _, rfl, ite2 (fun c => ?_) (fun c => ?_)⟩⟩
  · exact ⟨_, rfl, _, b, dg, pl, 1, rfl, by decide, bx0, fun e v H1 d1 z1 t1 bx1 o1 => q (some e) v H1 (fun e' h => by cases h; exact ⟨d1, z1⟩) t1 bx1 (o0.trans o1)⟩
  · exact q none _ H0 (fun e h => by cases h) .non bx0 o0
end
abbrev sTemplate : Stmt := topS 19
theorem scTemplate : FnScope ["box", "own", "level", "last", "free", "kind", "action", "key", "tag", "test", "yes", "count", "props", "k"] ["box", "own", "level", "last", "free"] (defScope sTemplate) := ⟨rfl, rfl, rfl, by decide +kernel, rfl, by decide +kernel, by decide +kernel⟩
section
variable {P : Program} {w : World} {K : PySem.W.Frag} {mg : Str → Option Value} {base : Heap}
theorem ok_template {f fE fR fK fN : Addr} {fd dE dR dK dN : FuncData} {k n : Nat} (F : Fun K "_law_template" "_law_template" sTemplate f fd)
    (GE : FnOk P w K mg base CX0 k fE dE ["box", "depth"] (spExprY 2)) (bE : Binds K dE ["box", "depth"] []) (kE : PySem.W.keepIn K (.ref fE) = true) (mE : mg "_law_expr" = some (.ref fE))
    (GR : FnOk P w K mg base CX0 k fR dR ["box", "many"] spDrawY) (bR : Binds K dR ["box", "many"] []) (kR : PySem.W.keepIn K (.ref fR) = true) (mR : mg "_law_draw" = some (.ref fR))
    (GK : FnOk P w K mg base CX0 k fK dK ["box"] spKeyY) (bK : Binds K dK ["box"] []) (kK : PySem.W.keepIn K (.ref fK) = true) (mK : mg "_law_key" = some (.ref fK))
    (GN : FnOk P w K mg base CX0 k fN dN ["box", "own", "level", "last", "free"] (spContentsY n)) (bN : Binds K dN ["box", "own", "level", "last", "free"] []) (kN : PySem.W.keepIn K (.ref fN) = true) (mN : mg "_law_contents" = some (.ref fN))
    (m_int : mg "int" = none) (m_len : mg "len" = none) (m_range : mg "range" = none) (m_tuple : mg "tuple" = none) :
    FnOk P w K mg base CX0 (k + 1) f fd ["box", "own", "level", "last", "free"] (spTemplateY (n + 1)) := by
  refine F.ok scTemplate (fun vs H Q E h => ?_) (fun cdv A outer s H vs Q E' hr h => ?_)
  · obtain ⟨bz, b, dg, pl, own, level, last, r, free, rfl, _⟩ := h
    rfl
  obtain ⟨bz, b, dg, pl, own, level, last, r, free, rfl, hlr, hrn, hn2, hn4, bx, q⟩ := h
  have nd := scTemplate.nd
  refine ⟨_, (pss_cons (ps_asg (pe_op op_sub (pe_ix ix_list (pv 0) pe_int (fun _ _ => rfl)) pe_int) (pg_sub (pv 0) pe_int set_list))
  (pss_cons (ps_set (i := 5) nd rfl (.inl rfl) (pe_call GR hr rfl mR kR bR .nil pass0 (pa_cons (pv 0) (pa_cons pe_int pa_nil))))
  (pss_cons (ps_if (pt_cmpR op_eq (pv 5) pe_int (nomark _))
  (pss_one (ps_ret (pe_tup (pa_cons pe_str (pa_cons (pe_ix ix_list (pe_lst (pa_cons pe_str (pa_cons pe_str (pa_cons pe_str pa_nil)))) (pe_call GR hr rfl mR kR bR .nil pass0 (pa_cons (pv 0) (pa_cons pe_int pa_nil))) (fun _ _ => rfl)) pa_nil)))))
  pss_nil)
  (pss_cons (ps_if (PW.pt (pw_and (pt_cmpR op_lt (pv 5) pe_int (nomark _)) (pw_and (pt_cmpR op_lt (pv 2) pe_int (nomark _)) (pw_and1 (pt_cmpR op_gt (pe_ix ix_list (pv 0) pe_int (fun _ _ => rfl)) pe_int (nomark _))))))
  (pss_cons (ps_set (i := 6) nd rfl (.inl rfl) (pe_ix ix_list (pe_lst (pa_cons pe_non (pa_cons pe_int (pa_cons pe_int (pa_cons pe_int pa_nil))))) (pe_call GR hr rfl mR kR bR .nil pass0 (pa_cons (pv 0) (pa_cons pe_int pa_nil))) (fun _ _ => rfl)))
  (pss_cons (ps_set (i := 7) nd rfl (.inl rfl) (pe_call GK hr rfl mK kK bK .nil pass0 (pa_cons (pv 0) pa_nil)))
  (pss_cons (ps_set (i := 8) nd rfl (.inl rfl) (pe_ix ix_list (pe_lst (pa_cons pe_str (pa_cons pe_str (pa_cons pe_str pa_nil)))) (pe_call GR hr rfl mR kR bR .nil pass0 (pa_cons (pv 0) (pa_cons pe_int pa_nil))) (fun _ _ => rfl)))
  (pss_one (ps_ret (pe_tup (pa_cons pe_str (pa_cons (pv 8) (pa_cons (pv 7) (pa_cons (pv 6) (pa_cons (pe_call GN hr rfl mN kN bN .nil pass0 (pa_cons (pv 0) (pa_cons (pv 1) (pa_cons (pe_op op_add (pv 2) pe_int) (pa_cons (pv 3) (pa_cons (pv 4) pa_nil)))))) pa_nil)))))))))))
  pss_nil)
  (pss_cons (ps_if (PW.pt (pw_and (pt_cmpR op_eq (pv 5) pe_int (nomark _)) (pw_and (pt_cmpR op_lt (pv 2) pe_int (nomark _)) (pw_and1 (pt_cmpR op_gt (pe_ix ix_list (pv 0) pe_int (fun _ _ => rfl)) pe_int (nomark _))))))
  (pss_cons (ps_set (i := 9) nd rfl (.inl rfl) (pe_call GE hr rfl mE kE bE .nil pass0 (pa_cons (pv 0) (pa_cons pe_int pa_nil))))
  (pss_cons (ps_set (i := 10) nd rfl (.inl rfl) (pe_call GN hr rfl mN kN bN .nil pass0 (pa_cons (pv 0) (pa_cons (pv 1) (pa_cons (pe_op op_add (pv 2) pe_int) (pa_cons (pv 3) (pa_cons pe_bl pa_nil)))))))
  (pss_one (ps_ret (pe_tup (pa_cons pe_str (pa_cons (pv 9) (pa_cons (pv 10) (pa_cons (pe_call GN hr rfl mN kN bN .nil pass0 (pa_cons (pv 0) (pa_cons (pv 1) (pa_cons (pe_op op_add (pv 2) pe_int) (pa_cons (pv 3) (pa_cons pe_bl pa_nil)))))) pa_nil)))))))))
  pss_nil)
  (pss_cons (ps_if (PW.pt (pw_and (pt_cmpR op_eq (pv 5) pe_int (nomark _)) (pw_and (pt_cmpR op_lt (pv 2) pe_int (nomark _)) (pw_and (pt_cmpR op_gt (pe_ix ix_list (pv 0) pe_int (fun _ _ => rfl)) pe_int (nomark _)) (pw_and1 (pt_cmpR op_gt (pe_ix ix_list (pv 0) pe_int (fun _ _ => rfl)) pe_int (nomark _)))))))
  (pss_cons (ps_asg pe_int (pg_sub (pv 0) pe_int set_list))
  (pss_cons (ps_set (i := 11) nd rfl (.inl rfl) (pe_tup (pa_cons pe_str (pa_cons (pe_tup (pa_cons pe_str (pa_cons (pe_call GE hr rfl mE kE bE .nil pass0 (pa_cons (pv 0) (pa_cons pe_int pa_nil))) (pa_cons (pe_call GE hr rfl mE kE bE .nil pass0 (pa_cons (pv 0) (pa_cons pe_int pa_nil))) pa_nil)))) (pa_cons (pe_tup (pa_cons pe_str (pa_cons (pe_call GR hr rfl mR kR bR .nil pass0 (pa_cons (pv 0) (pa_cons pe_int pa_nil))) pa_nil))) pa_nil)))))
  (pss_one (ps_ret (pe_tup (pa_cons pe_str (pa_cons (pv 11) (pa_cons (pe_call GN hr rfl mN kN bN .nil pass0 (pa_cons (pv 0) (pa_cons (pv 1) (pa_cons (pe_op op_add (pv 2) pe_int) (pa_cons (pv 3) (pa_cons pe_bl pa_nil)))))) pa_nil))))))))
  pss_nil)
  (pss_cons (ps_if (PW.pt (pw_and (pt_cmpR op_lt (pv 5) pe_int (nomark _)) (pw_and (pt_cmpR op_lt (pv 1) (pv 3) (nomark _)) (pw_and1 (pt_cmpR op_gt (pe_ix ix_list (pv 0) pe_int (fun _ _ => rfl)) pe_int (nomark _))))))
  (pss_cons (ps_asg (pe_op op_sub (pe_ix ix_list (pv 0) pe_int (fun _ _ => rfl)) pe_int) (pg_sub (pv 0) pe_int set_list))
  (pss_cons (ps_set (i := 12) nd rfl (.inl rfl) (pe_tupleOf (by rfl) m_tuple (pe_lc (own := [("k", 13)]) (g := gName 13) (tt := tYes) rfl nd (pi_range1 (by rfl) m_range (pa_cons (pe_call GR hr rfl mR kR bR .nil pass0 (pa_cons (pv 0) (pa_cons pe_int pa_nil))) pa_nil)) (blkOk_by (N := ["box", "own", "level", "last", "free", "kind", "action", "key", "tag", "test", "yes", "count", "props", "k"]) (sc := defScope sTemplate) (by decide +kernel)) (fun _ _ _ _ _ => (pg_name (i := 13) nd rfl (.inl rfl))) (fun _ _ _ _ _ => pts_nil) (fun _ _ _ _ _ => (pe_call GE hr rfl mE kE bE .nil pass0 (pa_cons (pv 0) (pa_cons pe_int pa_nil)))))))
  (pss_one (ps_ret (pe_tup (pa_cons pe_str (pa_cons (pe_op op_add (pe_op op_add (pv 1) pe_int) (pe_call GR hr rfl mR kR bR .nil pass0 (pa_cons (pv 0) (pa_cons (pe_op op_sub (pv 3) (pv 1)) pa_nil)))) (pa_cons (pe_call GK hr rfl mK kK bK .nil pass0 (pa_cons (pv 0) pa_nil)) (pa_cons (pv 12) pa_nil)))))))))
  pss_nil)
  (pss_cons (ps_if (PW.pt (pw_and (pt_cmpR op_eq (pv 5) pe_int (nomark _)) (pw_and (pt_cmpR op_eq (pv 1) pe_int (nomark _)) (pw_and (pt_val (pv 4)) (pw_and1 (pt_cmpR op_gt (pe_callB call_len_seq (by rfl) m_len PySem.boot_len (pa_cons (pe_ix ix_list (pv 0) pe_int (fun _ _ => rfl)) pa_nil)) pe_int (nomark _)))))))
  (pss_one (ps_ret (pe_tup (pa_cons pe_str (pa_cons (pe_bm0 PySem.F.plainAttrs_list PySem.F.slot_list_pop PySem.F.type_list_pop mt_pop (pe_ix ix_list (pv 0) pe_int (fun _ _ => rfl))) pa_nil)))))
  pss_nil)
  (pss_cons (ps_if (pt_cmpR op_eq (pv 5) pe_int (nomark _))
  (pss_one (ps_ret (pe_tup (pa_cons pe_str (pa_cons pe_str (pa_cons (pe_call GR hr rfl mR kR bR .nil pass0 (pa_cons (pv 0) (pa_cons pe_int pa_nil))) pa_nil))))))
  pss_nil)
  (pss_one (ps_ret (pe_tup (pa_cons pe_str (pa_cons (pe_call GE hr rfl mE kE bE .nil pass0 (pa_cons (pv 0) (pa_cons pe_int pa_nil))) pa_nil)))))))))))))), ?_⟩
  obtain ⟨at', n3, hb⟩ := bx.get
  refine ⟨_, rfl, b, _, _, _, rfl, rfl, SqL.of hb, at2, _, _, rfl, rfl, ?_⟩
  refine ⟨_, rfl, b, _, 2, 2, rfl, rfl, hb, rfl, ?_⟩
  have bxa := bx.put at' (bz.n2 - 1) n3 bz.n4
  have oa : Oth [b, pl] H (upd H b (.lst [.ref dg, .int (at' : Int), .int (bz.n2 - 1), .int n3, .int bz.n4, .ref pl])) := Oth.put (by simp) hb
  refine ⟨_, rfl, _, b, dg, pl, _, rfl, by decide, bxa, fun kind H0 k0 k1 bx0 o0 => ?_⟩
  have o00 : Oth [b, pl] H H0 := oa.trans o0.two
  clear bxa
  have hz2 : (0 : Int) ≤ bz.n2 - 1 := by omega
  -- text
  refine ⟨_, rfl, rfl, _, rfl, ite2 (fun c => ?text) (fun c => ?_)⟩
  case text =>
    refine ⟨sz, fun l hl => ⟨_, rfl, _, b, dg, pl, _, rfl, by decide, bx0.new hl, fun r1 H1 l1 u1 bx1 o1 => ?_⟩⟩
    obtain ⟨v, vm, hv⟩ := at_mem (xs := [.str "a", .str "b c", .str "7"]) l1 u1
    refine ⟨l, _, _, _, rfl, rfl, SqL.of (bx0.lit hl o1), hv, sz, fun p hp => ?_⟩
    obtain ⟨s, rfl, hs1⟩ : ∃ s, v = .str s ∧ (s = "a" ∨ s = "b c" ∨ s = "7") := by
      simp only [List.mem_cons, List.not_mem_nil, or_false] at vm
      rcases vm with e | e | e
      · exact ⟨_, e, .inl rfl⟩
      · exact ⟨_, e, .inr (.inl rfl)⟩
      · exact ⟨_, e, .inr (.inr rfl)⟩
    exact q ⟨bz.n2 - 1, bz.n4, bz.ps⟩ (.text s) _ _ (Nat.zero_le _) (by simp only [Tp.cnt]; omega) (by simp only []; omega) (by simp only [Tp.ech]; omega) hn4 (List.Perm.refl _) hs1 (.mk2 upd_same (.str _) (.str _)) (bx1.new hp) (o00.trans ((Oth.new hl).trans (o1.two.trans (Oth.new hp))))
  obtain ⟨a0, m3, hb0⟩ := bx0.get
  -- box
  refine (fun nx => ⟨_, rfl, _, _, rfl, rfl, _, rfl, ite2 (fun c1 => ⟨_, rfl, _, _, rfl, rfl, _, rfl, ite2 (fun c2 => ⟨_, rfl, b, _, _, _, rfl, rfl, SqL.of hb0, at2, _, _, rfl, rfl, _, rfl, ite2 (fun c3 => ?tbox) (fun _ => nx)⟩) (fun _ => iteF nx)⟩) (fun _ => iteF nx)⟩) ?_
  case tbox =>
    have hl3 : (level : Int) < 3 := of_decide_eq_true c2
    obtain ⟨r', rfl⟩ : ∃ r', r = r' + 1 := ⟨r - 1, by omega⟩
    refine ⟨sz, fun l hl => ⟨_, rfl, _, b, dg, pl, _, rfl, by decide, bx0.new hl, fun r1 H1 l1 u1 bx1 o1 => ?_⟩⟩
    obtain ⟨va, vam, hva⟩ := at_mem (xs := [.non, .int 0, .int 1, .int 2]) l1 u1
    obtain ⟨act, ta, ha16⟩ : ∃ act : Option Nat, (∀ H', IsT H' (actT act) va) ∧ ∀ n ∈ act, n ≤ 2 := by
      simp only [List.mem_cons, List.not_mem_nil, or_false] at vam
      rcases vam with e | e | e | e <;> rw [e]
      · exact ⟨none, fun _ => .non, by simp⟩
      · exact ⟨some 0, fun _ => .int _, by simp⟩
      · exact ⟨some 1, fun _ => .int _, by simp⟩
      · exact ⟨some 2, fun _ => .int _, by simp⟩
    refine ⟨l, _, _, _, rfl, rfl, SqL.of (bx0.lit hl o1), hva, ?_⟩
    refine ⟨_, rfl, _, b, dg, pl, rfl, bx1, fun key vk H2 dk tk bx2 o2 => ?_⟩
    refine ⟨sz, fun l2 hl2 => ⟨_, rfl, _, b, dg, pl, _, rfl, by decide, bx2.new hl2, fun r3 H3 l3 u3 bx3 o3 => ?_⟩⟩
    obtain ⟨vt, vtm, hvt⟩ := at_mem (xs := [.str "p", .str "div", .str "li"]) l3 u3
    obtain ⟨tag, rfl, hs1⟩ : ∃ s, vt = .str s ∧ (s = "p" ∨ s = "div" ∨ s = "li") := by
      simp only [List.mem_cons, List.not_mem_nil, or_false] at vtm
      rcases vtm with e | e | e
      · exact ⟨_, e, .inl rfl⟩
      · exact ⟨_, e, .inr (.inl rfl)⟩
      · exact ⟨_, e, .inr (.inr rfl)⟩
    refine ⟨l2, _, _, _, rfl, rfl, SqL.of (bx2.lit hl2 o3), hvt, ?_⟩
    refine ⟨_, rfl, _, rfl, _, rfl, _, rfl, _, rfl, _, rfl, _, _, rfl, rfl, _, rfl, _, rfl, ⟨bz.n2 - 1, bz.n4, bz.ps⟩, b, dg, pl, own, level + 1, last, r', free, rfl, by omega, by omega, hz2, hn4, bx3, fun z4 cs vc H4 d4 c4 l4 e4 g4 p4 f4 t4 bx4 o4 => ⟨sz, fun p hp => ?_⟩⟩
    have on := Oth.new (S := [b, pl]) (o := .tup [.str "box", .str tag, vk, va, vc]) hp
    have o24 := ((Oth.new hl2).trans o3.two).trans o4
    refine q z4 (.box tag key act cs) _ _ (by simp only [Tp.dep]; omega) (by simp only [Tp.cnt] at c4 ⊢; omega) l4 (by simp only [Tp.ech] at e4 ⊢; omega) g4 p4 ⟨hs1, dk, ha16, f4⟩ ?_ (bx4.new hp) (o00.trans (((Oth.new hl).trans o1.two).trans (o2.two.trans (o24.trans on))))
    exact .mk5 upd_same (.str _) (.str _) ((tk.oth o24).oth on) (ta _) (t4.oth on)
  clear c
  -- when
  refine (fun nx => ⟨_, rfl, rfl, _, rfl, ite2 (fun c1 => ⟨_, rfl, _, _, rfl, rfl, _, rfl, ite2 (fun c2 => ⟨_, rfl, b, _, _, _, rfl, rfl, SqL.of hb0, at2, _, _, rfl, rfl, _, rfl, ite2 (fun c3 => ?twhen) (fun _ => nx)⟩) (fun _ => iteF nx)⟩) (fun _ => iteF nx)⟩) ?_
  case twhen =>
    have hl3 : (level : Int) < 3 := of_decide_eq_true c2
    obtain ⟨r', rfl⟩ : ∃ r', r = r' + 1 := ⟨r - 1, by omega⟩
    refine ⟨_, rfl, _, b, dg, pl, 1, rfl, by decide, bx0, fun e1 v1 H1 d1 z1 t1 bx1 o1 => ?_⟩
    refine ⟨_, rfl, _, rfl, _, rfl, _, _, rfl, rfl, _, rfl, ⟨bz.n2 - 1, bz.n4, bz.ps⟩, b, dg, pl, own, level + 1, last, r', false, rfl, by omega, by omega, hz2, hn4, bx1, fun z2 cs vc H2 d2 c2 l2 e2 g2 p2 f2 t2 bx2 o2 => ?_⟩
    refine ⟨_, rfl, _, rfl, _, rfl, _, rfl, _, rfl, _, _, rfl, rfl, _, rfl, _, b, dg, pl, own, level + 1, last, r', false, rfl, by omega, by omega, l2, g2, bx2, fun z3 os vo H3 d3 c3' l3 e3 g3 p3 f3 t3 bx3 o3 => ⟨sz, fun p hp => ?_⟩⟩
    have on := Oth.new (S := [b, pl]) (o := .tup [.str "when", v1, vc, vo]) hp
    refine q z3 (.when e1 cs os) _ _ (by simp only [Tp.dep]; omega) (by simp only [Tp.cnt] at c2 c3' ⊢; omega) l3 (by simp only [Tp.ech] at e2 e3 ⊢; omega) g3 (by simp only [Tp.pts]; rw [List.append_assoc]; exact (List.Perm.append_left _ p3).trans p2) ⟨⟨d1, z1⟩, f2, f3⟩ ?_ (bx3.new hp) (o00.trans (o1.two.trans (o2.trans (o3.trans on))))
    exact .mk4 upd_same (.str _) (((t1.oth o2).oth o3).oth on) ((t2.oth o3).oth on) (t3.oth on)
  -- each
  refine (fun nx => ⟨_, rfl, rfl, _, rfl, ite2 (fun c1 => ⟨_, rfl, _, _, rfl, rfl, _, rfl, ite2 (fun c2 => ⟨_, rfl, b, _, _, _, rfl, rfl, SqL.of hb0, at2, _, _, rfl, rfl, _, rfl, ite2 (fun c3 => ⟨_, rfl, b, _, _, _, rfl, rfl, SqL.of hb0, at4, _, _, rfl, rfl, _, rfl, ite2 (fun c4 => ?teach) (fun _ => nx)⟩) (fun _ => iteF nx)⟩) (fun _ => iteF nx)⟩) (fun _ => iteF nx)⟩) ?_
  case teach =>
    have hl3 : (level : Int) < 3 := of_decide_eq_true c2
    obtain ⟨r', rfl⟩ : ∃ r', r = r' + 1 := ⟨r - 1, by omega⟩
    refine ⟨_, rfl, b, _, 4, 4, rfl, rfl, hb0, rfl, ?_⟩
    have bxb := bx0.put a0 (bz.n2 - 1) m3 0
    have ob : Oth [b, pl] H0 (upd H0 b (.lst [.ref dg, .int (a0 : Int), .int (bz.n2 - 1), .int m3, .int 0, .ref pl])) := Oth.put (by simp) hb0
    refine ⟨_, rfl, _, b, dg, pl, 1, rfl, by decide, bxb, fun e1 v1 H1 d1 z1 t1 bx1 o1 => ?_⟩
    refine ⟨_, rfl, _, b, dg, pl, 0, rfl, by decide, bx1, fun e2 v2 H2 d2 z2 t2 bx2 o2 => ⟨sz, fun p1 hp1 => ?_⟩⟩
    refine ⟨_, rfl, _, b, dg, pl, _, rfl, by decide, bx2.new hp1, fun r3 H3 l3 u3 bx3 o3 => ⟨sz, fun p2 hp2 => ⟨sz, fun p3 hp3 => ?_⟩⟩⟩
    have s1 := Oth.new (S := [b, pl]) (o := .tup [.str "same", v1, v2]) hp1
    have s2 := Oth.new (S := [b, pl]) (o := .tup [.str "num", .int r3]) hp2
    have s3 := Oth.new (S := [b, pl]) (o := .tup [.str "plus", .ref p1, .ref p2]) hp3
    have s13 := s1.trans (o3.two.trans (s2.trans s3))
    refine ⟨_, rfl, _, rfl, _, rfl, _, rfl, _, _, rfl, rfl, _, rfl, ⟨bz.n2 - 1, 0, bz.ps⟩, b, dg, pl, own, level + 1, last, r', false, rfl, by omega, by omega, hz2, Int.le_refl _, (bx3.new hp2).new hp3, fun z4 cs vc H4 d4 c4' l4 e4 g4 p4 f4 t4 bx4 o4 => ⟨sz, fun p hp => ?_⟩⟩
    have on := Oth.new (S := [b, pl]) (o := .tup [.str "each", .ref p3, vc]) hp
    refine q z4 (.each (.plus (.same e1 e2) (.num r3)) cs) _ _ (by simp only [Tp.dep]; omega) (by have z5 : (Tp.cnts cs : Int) + z4.n2 = bz.n2 - 1 := c4'; simp only [Tp.cnt]; omega) l4 (by have z5 : (Tp.echs cs : Int) + z4.n4 ≤ 0 := e4; simp only [Tp.ech]; have : (0 : Int) < bz.n4 := of_decide_eq_true c4; omega) g4 p4 ⟨⟨by simp only [E.depth]; omega, ⟨z1, z2⟩, l3, by omega⟩, f4⟩ ?_ (bx4.new hp) (o00.trans (ob.trans (o1.two.trans (o2.two.trans (s13.trans (o4.trans on))))))
    refine .mk3 upd_same (.str _) ?_ (t4.oth on)
    have o4n := o4.trans on
    refine .mk3 (o4n.tup _ _ upd_same) (.str _) (.mk3 ((o3.two.trans (s2.trans (s3.trans o4n))).tup _ _ upd_same) (.str _) (((t1.oth o2).oth s13).oth o4n) ((t2.oth s13).oth o4n)) (.mk2 ((s3.trans o4n).tup _ _ upd_same) (.str _) (.int _))
  -- child
  refine (fun nx => ⟨_, rfl, _, _, rfl, rfl, _, rfl, ite2 (fun c1 => ⟨_, rfl, _, rfl, _, _, rfl, rfl, _, rfl, ite2 (fun c2 => ⟨_, rfl, b, _, _, _, rfl, rfl, SqL.of hb0, at3, _, _, rfl, rfl, _, rfl, ite2 (fun c3 => ?tchild) (fun _ => nx)⟩) (fun _ => iteF nx)⟩) (fun _ => iteF nx)⟩) ?_
  case tchild =>
    have hol : (own : Int) < (last : Int) := of_decide_eq_true c2
    refine ⟨_, rfl, b, _, _, _, rfl, rfl, SqL.of hb0, at3, _, _, rfl, rfl, _, rfl, b, _, 3, 3, rfl, rfl, hb0, rfl, ?_⟩
    have bxb := bx0.put a0 (bz.n2 - 1) (m3 - 1) bz.n4
    have ob : Oth [b, pl] H0 (upd H0 b (.lst [.ref dg, .int (a0 : Int), .int (bz.n2 - 1), .int (m3 - 1), .int bz.n4, .ref pl])) := Oth.put (by simp) hb0
    refine ⟨_, rfl, _, b, dg, pl, _, rfl, by decide, bxb, fun m H1 l1 u1 bx1 o1 => ?_⟩
    have s01 := ob.trans o1.two
    refine ⟨m, rfl, by omega, by omega, fun D hD => lc_range (lo := 0) (n := m.toNat)
      (fun j H4 => By H4 b dg pl ⟨bz.n2 - 1, bz.n4, bz.ps⟩ ∧ ∃ (es : List E) (vs : List V), H4 D = some (.lst vs) ∧ Paired (IsT H4) (es.map E.toT) vs ∧ es.length = j ∧ (∀ e ∈ es, e.depth ≤ 1) ∧ (∀ e ∈ es, e.Ok) ∧ Oth [b, D] H1 H4)
      ⟨bx1.new hD, [], [], upd_same, .nil, rfl, by simp, by simp, Oth.new hD⟩ (fun j H4 hj hW => ?_) (fun H4 hW => ?_)⟩
    · obtain ⟨bx4, es, vs, hD4, pv4, ej, dj, zj, o4⟩ := hW
      have nbD : b ≠ D := bx1.nb hD
      refine ⟨rfl, ⟨_, rfl, _, b, dg, pl, 1, rfl, by decide, bx4, fun e v H5 d5 z5 t5 bx5 o5 => ?_⟩⟩
      have hD5 := o5.keep D _ (by simp [nbD.symm]) hD4
      have lv : vs.length = j := by rw [(paired_get pv4).1, List.length_map, ej]
      have op : Oth [b, D] H5 (upd H5 D (.lst (vs ++ [v]))) := Oth.put (by simp) hD5
      refine ⟨vs, hD5, small1000 (by omega), ?_, es ++ [e], vs ++ [v], upd_same, ?_, by rw [List.length_append, ej]; rfl, ?_, ?_, (o4.trans (o5.mono (by simp))).trans op⟩
      · exact bx5.oth (S := [D]) (Oth.put (by simp) hD5) (by simp [nbD]) (by simp [bx1.ndn hD]) (by simp [bx1.npn hD])
      · rw [List.map_append]
        exact paired_app (paired_oth (paired_oth pv4 o5) op) (.cons (t5.oth op) .nil)
      · intro e' he
        rcases List.mem_append.mp he with h | h
        · exact dj e' h
        · rw [List.mem_singleton.mp h]; exact d5
      · intro e' he
        rcases List.mem_append.mp he with h | h
        · exact zj e' h
        · rw [List.mem_singleton.mp h]; exact z5
    · obtain ⟨bx4, es, vs, hD4, pv4, ej, dj, zj, o4⟩ := hW
      have o4' := Oth.drop2 o4 hD
      refine .inl ⟨D, _, rfl, SqL.of hD4, fun t ht => ?_⟩
      have ot := Oth.new (S := [b, pl]) (o := .tup vs) ht
      refine ⟨_, rfl, _, _, rfl, rfl, _, rfl, _, rfl, _, rfl, _, _, rfl, rfl, _, b, dg, pl, _, rfl, by omega, bx4.new ht, fun r5 H5 l5 u5 bx5 o5 => ⟨_, _, rfl, rfl, _, rfl, _, b, dg, pl, rfl, bx5, fun key vk H6 dk tk bx6 o6 => ⟨_, rfl, sz, fun p hp => ?_⟩⟩⟩
      obtain ⟨n5, rfl⟩ := Int.eq_ofNat_of_zero_le l5
      have on := Oth.new (S := [b, pl]) (o := .tup [.str "child", .int ((own : Int) + 1 + (n5 : Int)), vk, .ref t]) hp
      have o56 := o5.two.trans (o6.two.trans on)
      refine q ⟨bz.n2 - 1, bz.n4, bz.ps⟩ (.child (own + 1 + n5) key es) _ _ (Nat.zero_le _) (by simp only [Tp.cnt]; omega) (by simp only []; omega) (by simp only [Tp.ech]; omega) hn4 (List.Perm.refl _) ⟨by omega, by omega, dk, by omega, fun e he => ⟨dj e he, zj e he⟩⟩ ?_ (bx6.new hp) (o00.trans (s01.trans (o4'.two.trans (ot.trans o56))))
      exact .mk4 upd_same (.str _) (.int _) (tk.oth on) (.mk (o56.tup _ _ upd_same) (paired_oth pv4 (ot.trans o56)))
  -- part
  have hpl := bx0.parts
  dsimp only at hpl
  obtain ⟨ps, hps⟩ : ∃ ps, bz.ps = ps := ⟨_, rfl⟩
  rw [hps] at hpl
  refine (fun nx => ⟨_, rfl, rfl, _, rfl, ite2 (fun c1 => ⟨_, rfl, rfl, _, rfl, ite2 (fun c2 => ⟨_, rfl, _, rfl, ite2 (fun c3 => ⟨_, rfl, b, _, _, _, rfl, rfl, SqL.of hb0, at5, pl, _, rfl, .inl (SqL.of hpl), _, _, rfl, rfl, _, rfl, ite2 (fun c4 => ?tpart) (fun _ => nx)⟩) (fun _ => iteF nx)⟩) (fun _ => iteF nx)⟩) (fun _ => iteF nx)⟩) ?_
  case tpart =>
    have hne : (0 : Int) < (((ps.map natV).length : Nat) : Int) := of_decide_eq_true c4
    rw [List.length_map] at hne
    have hlt : ps.length - 1 < ps.length := by omega
    have g : (ps.map natV)[(ps.map natV).length - 1]? = some (natV ps[ps.length - 1]) := by rw [List.length_map, List.getElem?_map, List.getElem?_eq_getElem hlt]; rfl
    refine ⟨_, rfl, b, _, _, _, rfl, rfl, SqL.of hb0, at5, .inl ⟨rfl, _, SqL.of hpl⟩, pl, _, _, rfl, rfl, hpl, g, sz, fun p hp => ?_⟩
    have ob : Oth [b, pl] H0 (upd H0 pl (.lst (ps.map natV).dropLast)) := Oth.put (by simp) hpl
    have on := Oth.new (S := [b, pl]) (o := .tup [.str "part", natV ps[ps.length - 1]]) hp
    have bxp : By (upd H0 pl (.lst (ps.map natV).dropLast)) b dg pl ⟨bz.n2 - 1, bz.n4, ps.dropLast⟩ := by
      obtain ⟨ds, hds⟩ := bx0.dig
      exact ⟨⟨m3, ds, a0, by rw [upd_ne (bx0.npb.symm)]; exact hb0, by rw [upd_ne (fun e => bx0.nd e.symm)]; exact hds⟩, by rw [upd_same, List.map_dropLast], bx0.nd⟩
    have hne' : ps ≠ [] := by intro e; rw [e] at hne; simp at hne
    have hown : (own : Int) = 0 := V.int.inj (of_decide_eq_true c2)
    exact q ⟨bz.n2 - 1, bz.n4, ps.dropLast⟩ (.part ps[ps.length - 1]) _ _ (Nat.zero_le _) (by simp only [Tp.cnt]; omega) (by simp only []; omega) (by simp only [Tp.ech]; omega) hn4 (by
      rw [hps]
      have z : ps.dropLast ++ [ps[ps.length - 1]] = ps := by
        rw [← List.getLast_eq_getElem hne']
        exact List.dropLast_concat_getLast hne'
      simp only [Tp.pts]
      exact (List.perm_append_comm).trans (by rw [z])) ⟨by omega, c3⟩ (.mk2 upd_same (.str _) (.int _)) (bxp.new hp) (o00.trans (ob.trans on))
  -- input
  refine ⟨_, rfl, rfl, _, rfl, ite2 (fun c1 => ?_) (fun c1 => ?_)⟩
  · refine ⟨_, rfl, _, b, dg, pl, _, rfl, by decide, bx0, fun r1 H1 l1 u1 bx1 o1 => ⟨sz, fun p hp => ?_⟩⟩
    obtain ⟨n1, rfl⟩ := Int.eq_ofNat_of_zero_le l1
    exact q ⟨bz.n2 - 1, bz.n4, bz.ps⟩ (.input "q" n1) _ _ (Nat.zero_le _) (by simp only [Tp.cnt]; omega) (by simp only []; omega) (by simp only [Tp.ech]; omega) hn4 (List.Perm.refl _) ⟨rfl, by omega⟩ (.mk3 upd_same (.str _) (.str _) (.int _)) (bx1.new hp) (o00.trans (o1.two.trans (Oth.new hp)))
  · refine ⟨_, rfl, _, b, dg, pl, 1, rfl, by decide, bx0, fun e1 v1 H1 d1 z1 t1 bx1 o1 => ⟨sz, fun p hp => ?_⟩⟩
    have on := Oth.new (S := [b, pl]) (o := .tup [.str "show", v1]) hp
    exact q ⟨bz.n2 - 1, bz.n4, bz.ps⟩ (.show e1) _ _ (Nat.zero_le _) (by simp only [Tp.cnt]; omega) (by simp only []; omega) (by simp only [Tp.ech]; omega) hn4 (List.Perm.refl _) ⟨d1, z1⟩ (.mk2 upd_same (.str _) (t1.oth on)) (bx1.new hp) (o00.trans (o1.two.trans on))
end
abbrev sContents : Stmt := topS 20
theorem scContents : FnScope ["box", "own", "level", "last", "free", "rows", "k"] ["box", "own", "level", "last", "free"] (defScope sContents) := ⟨rfl, rfl, rfl, by decide +kernel, rfl, by decide +kernel, by decide +kernel⟩
abbrev sBox : Stmt := topS 23
theorem scBox : FnScope ["script", "first", "last"] ["script", "first", "last"] (defScope sBox) := ⟨rfl, rfl, rfl, by decide +kernel, rfl, by decide +kernel, by decide +kernel⟩
section
variable {P : Program} {w : World} {K : PySem.W.Frag} {mg : Str → Option Value} {base : Heap}
theorem ok_contents {f fR fT : Addr} {fd dR dT : FuncData} {k n : Nat} (F : Fun K "_law_contents" "_law_contents" sContents f fd)
    (GR : FnOk P w K mg base CX0 k fR dR ["box", "many"] spDrawY) (bR : Binds K dR ["box", "many"] []) (kR : PySem.W.keepIn K (.ref fR) = true) (mR : mg "_law_draw" = some (.ref fR))
    (GT : FnOk P w K mg base CX0 k fT dT ["box", "own", "level", "last", "free"] (spTemplateY n)) (bT : Binds K dT ["box", "own", "level", "last", "free"] []) (kT : PySem.W.keepIn K (.ref fT) = true) (mT : mg "_law_template" = some (.ref fT))
    (m_range : mg "range" = none) (m_tuple : mg "tuple" = none) :
    FnOk P w K mg base CX0 (k + 1) f fd ["box", "own", "level", "last", "free"] (spContentsY n) := by
  refine F.ok scContents (fun vs H Q E h => ?_) (fun cdv A outer s H vs Q E' hr h => ?_)
  · obtain ⟨bz, b, dg, pl, own, level, last, r, free, rfl, _⟩ := h
    rfl
  obtain ⟨bz, b, dg, pl, own, level, last, r, free, rfl, hlr, hrn, hn2, hn4, bx, q⟩ := h
  have nd := scContents.nd
  refine ⟨_, (pss_cons (ps_set (i := 5) nd rfl (.inl rfl) (pe_lst pa_nil))
  (pss_cons (ps_for PassesOwn.never rfl (pi_range1 (by rfl) m_range (pa_cons (pe_op op_add pe_int (pe_call GR hr rfl mR kR bR .nil pass0 (pa_cons (pv 0) (pa_cons pe_int pa_nil)))) pa_nil)) (pg_name (i := 6) nd rfl (.inl rfl))
  (pss_one (ps_if (pt_cmpR op_gt (pe_ix ix_list (pv 0) pe_int (fun _ _ => rfl)) pe_int (nomark _))
  (pss_one (ps_expr (pe_bm PySem.F.plainAttrs_list PySem.F.slot_list_append PySem.F.type_list_append mt_append (pv 5) (pa_cons (pe_call GT hr rfl mT kT bT .nil pass0 (pa_cons (pv 0) (pa_cons (pv 1) (pa_cons (pv 2) (pa_cons (pv 3) (pa_cons (pv 4) pa_nil)))))) pa_nil))))
  pss_nil)))
  (pss_one (ps_ret (pe_tupleOf (by rfl) m_tuple (pv 5)))))), ?_⟩
  refine ⟨sz, fun p hp => ?_⟩
  have nbp := bx.nb hp
  refine ⟨_, rfl, _, b, dg, pl, _, rfl, by decide, bx.new hp, fun m H0 l0 u0 bx0 o0 => ⟨_, _, rfl, rfl, ?_⟩⟩
  have npp := bx.npn hp
  have ndp := bx.ndn hp
  refine ⟨_, rfl, by omega, by omega, for_range (lo := 0) (n := (1 + m).toNat)
    (fun i σ H1 => ∃ (x6 : Option V) (z : Bt) (ts : List Tp) (vs : List V), σ = [some (.ref b), some (.int (own : Int)), some (.int (level : Int)), some (.int (last : Int)), some (.bl free), some (.ref p), x6] ∧ By H1 b dg pl z ∧ H1 p = some (.lst vs) ∧ Paired (IsT H1) (Tp.toTs ts) vs ∧
      Tp.deps ts ≤ r ∧ (Tp.cnts ts : Int) + z.n2 = bz.n2 ∧ 0 ≤ z.n2 ∧ (Tp.echs ts : Int) + z.n4 ≤ bz.n4 ∧ 0 ≤ z.n4 ∧ (Tp.ptss ts ++ z.ps).Perm bz.ps ∧ ts.length ≤ i ∧ Tp.Oks own last free ts ∧ Oth [b, pl, p] H H1)
    ⟨none, bz, [], [], rfl, bx0, bx.lit hp o0, .nil, Nat.zero_le _, by simp [Tp.cnts], hn2, by simp [Tp.echs], hn4, List.Perm.refl _, Nat.zero_le _, trivial, (Oth.new hp).trans (o0.mono (by simp))⟩ (fun i σ H1 hi hW => ?_) (fun σ H1 hW => ?_)⟩
  · obtain ⟨x6, z, ts, vs, rfl, bx1, hp1, pv, d1, c1, g1, e1, k1, p1, l1, f1, o1⟩ := hW
    obtain ⟨a1, m3, hb1⟩ := bx1.get
    refine ⟨_, rfl, b, _, _, _, rfl, rfl, SqL.of hb1, at2, _, _, rfl, rfl, _, rfl, ite2 (fun c => ?_) (fun c => ?_)⟩
    · have cz : (0 : Int) < z.n2 := of_decide_eq_true c
      refine ⟨_, rfl, .inl ⟨rfl, _, SqL.of hp1⟩, _, rfl, _, rfl, _, rfl, _, rfl, _, rfl, z, b, dg, pl, own, level, last, r, free, rfl, hlr, hrn, cz, k1, bx1, fun z2 t v H2 d2 c2 g2 e2 k2 p2 f2 t2 bx2 o2 => ?_⟩
      have hp2 := o2.keep p _ (by simp [nbp.symm, npp.symm]) hp1
      have lv : vs.length = ts.length := by rw [(paired_get pv).1, Tp.toTs_map, List.length_map]
      have op : Oth [p] H2 (upd H2 p (.lst (vs ++ [v]))) := Oth.put (by simp) hp2
      refine ⟨p, _, _, rfl, rfl, hp2, Nat.lt_of_le_of_lt (by omega : vs.length ≤ 1000) (by decide), ?_⟩
      refine ⟨_, z2, ts ++ [t], vs ++ [v], rfl, bx2.oth op (by simp [nbp]) (by simp [ndp]) (by simp [npp]), upd_same, ?_, ?_, ?_, g2, ?_, k2, ?_, by simp; omega, oks_app (b := [t]) ⟨f2, trivial⟩ _ f1, o1.trans ((o2.mono (by simp)).trans (op.mono (by simp)))⟩
      · rw [toTs_app]
        exact paired_app (paired_oth (paired_oth pv o2) op) (.cons (t2.oth op) .nil)
      · rw [deps_app]; simp only [Tp.deps]; omega
      · rw [cnts_app]; simp only [Tp.cnts]; omega
      · rw [echs_app]; simp only [Tp.echs]; omega
      · rw [ptss_app, List.append_assoc]
        simp only [Tp.ptss, List.append_nil]
        exact (List.Perm.append_left _ p2).trans p1
    · exact ⟨_, z, ts, vs, rfl, bx1, hp1, pv, d1, c1, g1, e1, k1, p1, by omega, f1, o1⟩
  · obtain ⟨x6, z, ts, vs, rfl, bx1, hp1, pv, d1, c1, g1, e1, k1, p1, l1, f1, o1⟩ := hW
    refine ⟨_, rfl, .inl ⟨p, _, rfl, SqL.of hp1, fun t ht => ?_⟩⟩
    have ot := Oth.new (S := [b, pl]) (o := .tup vs) ht
    refine q z ts _ _ d1 c1 g1 e1 k1 p1 f1 (.mk upd_same (paired_oth pv ot)) (bx1.new ht) (Oth.trans ?_ ot)
    exact Oth.drop (p := p) (o1.mono (by simp)) hp
theorem ok_box {f fD : Addr} {fd dD : FuncData} {k : Nat} (F : Fun K "_law_box" "_law_box" sBox f fd)
    (GD : FnOk P w K mg base CX0 k fD dD ["script", "first", "last"] (spDigits K)) (bD : Binds K dD ["script", "first", "last"] []) (kD : PySem.W.keepIn K (.ref fD) = true) (mD : mg "_law_digits" = some (.ref fD)) :
    FnOk P w K mg base CX0 (k + 1) f fd ["script", "first", "last"] (spBoxY K) := by
  refine F.ok scBox (fun vs H Q E h => ?_) (fun cdv A outer s H vs Q E' hr h => ?_)
  · obtain ⟨a, ns, i, j, rfl, _⟩ := h
    rfl
  obtain ⟨a, ns, i, j, rfl, hS, hi, hj, q⟩ := h
  have nd := scBox.nd
  refine ⟨_, (pss_one (ps_ret (pe_lst (pa_cons (pe_call GD hr rfl mD kD bD .nil pass0 (pa_cons (pv 0) (pa_cons (pv 1) (pa_cons (pv 2) pa_nil)))) (pa_cons pe_int (pa_cons pe_int (pa_cons pe_int (pa_cons pe_int (pa_cons (pe_lst pa_nil) pa_nil))))))))), ?_⟩
  refine ⟨_, rfl, _, rfl, _, rfl, a, ns, i, j, rfl, hS, hi, hj, fun d H1 ds hd o1 e1 => ⟨sz, fun pl hp => ⟨sz, fun b hb => ?_⟩⟩⟩
  have ndp : d ≠ pl := ne_of_none e1 hp
  have o2 := Oth.new (S := []) (o := .lst []) hp
  have ndb : d ≠ b := ne_of_none (o2.keep d _ (by simp) e1) hb
  have npb : pl ≠ b := ne_of_none (upd_same : (upd H1 pl (.lst [])) pl = _) hb
  have o3 := Oth.new (S := []) (o := .lst [.ref d, .int 0, .int 0, .int 0, .int 0, .ref pl]) hb
  refine q b d pl _ ?_ (o1.trans (o2.trans o3)) ⟨⟨0, ds, 0, upd_same, o3.keep d _ (by simp) (o2.keep d _ (by simp) e1)⟩, o3.keep pl _ (by simp) upd_same, ndp.symm⟩
  cases e : H b with
  | none => rfl
  | some o => rw [o2.keep b _ (by simp) (o1.keep b _ (by simp) e)] at hb; cases hb
end
abbrev sActions : Stmt := topS 21
theorem scActions : FnScope ["box", "actions", "k", "steps", "j", "kind"] ["box"] (defScope sActions) := ⟨rfl, rfl, rfl, by decide +kernel, rfl, by decide +kernel, by decide +kernel⟩
section
variable {P : Program} {w : World} {K : PySem.W.Frag} {mg : Str → Option Value} {base : Heap}
theorem ok_actions {f fE fR : Addr} {fd dE dR : FuncData} {k : Nat} (F : Fun K "_law_actions" "_law_actions" sActions f fd)
    (GE : FnOk P w K mg base CX0 k fE dE ["box", "depth"] (spExprY 2)) (bE : Binds K dE ["box", "depth"] []) (kE : PySem.W.keepIn K (.ref fE) = true) (mE : mg "_law_expr" = some (.ref fE))
    (GR : FnOk P w K mg base CX0 k fR dR ["box", "many"] spDrawY) (bR : Binds K dR ["box", "many"] []) (kR : PySem.W.keepIn K (.ref fR) = true) (mR : mg "_law_draw" = some (.ref fR))
    (m_range : mg "range" = none) (m_tuple : mg "tuple" = none) :
    FnOk P w K mg base CX0 (k + 1) f fd ["box"] spActionsY := by
  refine F.ok scActions (fun vs H Q E h => ?_) (fun cdv A outer s H vs Q E' hr h => ?_)
  · obtain ⟨bz, b, dg, pl, rfl, _⟩ := h
    rfl
  obtain ⟨bz, b, dg, pl, rfl, bx, q⟩ := h
  have nd := scActions.nd
  refine ⟨_, (pss_cons (ps_set (i := 1) nd rfl (.inl rfl) (pe_lst pa_nil))
  (pss_cons (ps_for PassesOwn.never rfl (pi_range1 (by rfl) m_range (pa_cons pe_int pa_nil)) (pg_name (i := 2) nd rfl (.inl rfl))
  (pss_cons (ps_set (i := 3) nd rfl (.inl rfl) (pe_lst pa_nil))
  (pss_cons (ps_for PassesOwn.never rfl (pi_range1 (by rfl) m_range (pa_cons (pe_op op_add pe_int (pe_call GR hr rfl mR kR bR .nil pass0 (pa_cons (pv 0) (pa_cons pe_int pa_nil)))) pa_nil)) (pg_name (i := 4) nd rfl (.inl rfl))
  (pss_cons (ps_set (i := 5) nd rfl (.inl rfl) (pe_call GR hr rfl mR kR bR .nil pass0 (pa_cons (pv 0) (pa_cons pe_int pa_nil))))
  (pss_one (ps_if (pt_cmpR op_lt (pv 5) pe_int (nomark _))
  (pss_one (ps_expr (pe_bm PySem.F.plainAttrs_list PySem.F.slot_list_append PySem.F.type_list_append mt_append (pv 3) (pa_cons (pe_tup (pa_cons pe_str (pa_cons (pe_call GR hr rfl mR kR bR .nil pass0 (pa_cons (pv 0) (pa_cons pe_int pa_nil))) (pa_cons (pe_call GE hr rfl mE kE bE .nil pass0 (pa_cons (pv 0) (pa_cons pe_int pa_nil))) pa_nil)))) pa_nil))))
  (pss_one (ps_if (pt_cmpR op_lt (pv 5) pe_int (nomark _))
  (pss_one (ps_expr (pe_bm PySem.F.plainAttrs_list PySem.F.slot_list_append PySem.F.type_list_append mt_append (pv 3) (pa_cons (pe_tup (pa_cons pe_str (pa_cons (pe_call GR hr rfl mR kR bR .nil pass0 (pa_cons (pv 0) (pa_cons pe_int pa_nil))) (pa_cons (pe_call GE hr rfl mE kE bE .nil pass0 (pa_cons (pv 0) (pa_cons pe_int pa_nil))) pa_nil)))) pa_nil))))
  (pss_one (ps_expr (pe_bm PySem.F.plainAttrs_list PySem.F.slot_list_append PySem.F.type_list_append mt_append (pv 3) (pa_cons (pe_tup (pa_cons pe_str (pa_cons (pe_call GR hr rfl mR kR bR .nil pass0 (pa_cons (pv 0) (pa_cons pe_int pa_nil))) pa_nil))) pa_nil))))))))))
  (pss_one (ps_expr (pe_bm PySem.F.plainAttrs_list PySem.F.slot_list_append PySem.F.type_list_append mt_append (pv 1) (pa_cons (pe_tupleOf (by rfl) m_tuple (pv 3)) pa_nil)))))))
  (pss_one (ps_ret (pe_tupleOf (by rfl) m_tuple (pv 1)))))), ?_⟩
  refine ⟨sz, fun p hp => ?_⟩
  have nbp := bx.nb hp
  have npp := bx.npn hp
  have ndp := bx.ndn hp
  refine ⟨_, rfl, by decide, by decide, for_range (lo := 0) (n := 2)
    (fun i σ H1 => ∃ (x2 x3 x4 x5 : Option V) (vs : List V) (ts : List (List St1)), σ = [some (.ref b), some (.ref p), x2, x3, x4, x5] ∧ By H1 b dg pl bz ∧ H1 p = some (.lst vs) ∧ Paired (IsT H1) (ts.map stepsT) vs ∧ (∀ r ∈ ts, r.length ≤ 2 ∧ ∀ s ∈ r, s.Ok) ∧ ts.length = i ∧ Oth [b, p] H H1)
    ⟨none, none, none, none, [], [], rfl, bx.new hp, upd_same, .nil, by simp, rfl, Oth.new hp⟩ (fun i σ H1 hi hW => ?_) (fun σ H1 hW => ?_)⟩
  · obtain ⟨x2, x3, x4, x5, vs, ts, rfl, bx1, hp1, pv, ro, lt, o1⟩ := hW
    have lv : vs.length ≤ i := by rw [(paired_get pv).1, List.length_map]; omega
    refine ⟨sz, fun p2 hp2 => ?_⟩
    have nb2 := bx1.nb hp2
    have np2 := bx1.npn hp2
    have nd2 := bx1.ndn hp2
    have npp2 : p ≠ p2 := ne_of_none hp1 hp2
    refine ⟨_, rfl, _, b, dg, pl, _, rfl, by decide, bx1.new hp2, fun m H2 l0 u0 bx2 o2 => ⟨_, _, rfl, rfl, ?_⟩⟩
    refine ⟨_, rfl, by omega, by omega, for_range (lo := 0) (n := (1 + m).toNat)
      (fun j σ H3 => ∃ (x4 x5 : Option V) (us : List V) (ks : List St1), σ = [some (.ref b), some (.ref p), some (.int (0 + (i : Int))), some (.ref p2), x4, x5] ∧ By H3 b dg pl bz ∧ H3 p2 = some (.lst us) ∧ Paired (IsT H3) (ks.map St1.toT) us ∧ (∀ s ∈ ks, s.Ok) ∧ ks.length ≤ j ∧ Oth [b, p2] H1 H3)
      ⟨x4, x5, [], [], rfl, bx2, bx1.lit hp2 o2, .nil, by simp, Nat.zero_le _, (Oth.new hp2).trans (o2.mono (by simp))⟩ (fun j σ H3 hj hW => ?_) (fun σ H3 hW => ?_)⟩
    · obtain ⟨x4, x5, us, ks, rfl, bx3, hp3, pu, ru, lk, o3⟩ := hW
      have lu : us.length ≤ j := by rw [(paired_get pu).1, List.length_map]; exact lk
      have fin : ∀ (t : St1) (v : V) (H4 : Hp), t.Ok → IsT H4 t.toT v → By H4 b dg pl bz → Oth [b] H3 H4 → H4 p2 = some (.lst us) ∧ us.length < sizeLine ∧ By (upd H4 p2 (.lst (us ++ [v]))) b dg pl bz ∧ Oth [b, p2] H1 (upd H4 p2 (.lst (us ++ [v]))) ∧ (Paired (IsT (upd H4 p2 (.lst (us ++ [v])))) ((ks ++ [t]).map St1.toT) (us ++ [v]) ∧ (∀ s ∈ ks ++ [t], s.Ok) ∧ (ks ++ [t]).length ≤ j + 1) := fun t v H4 kt tv bx4 o4 => by
        have hp4 := o4.keep p2 _ (by simp [nb2.symm]) hp3
        have op : Oth [p2] H4 (upd H4 p2 (.lst (us ++ [v]))) := Oth.put (by simp) hp4
        exact ⟨hp4, Nat.lt_of_le_of_lt (by omega : us.length ≤ 1000) (by decide), bx4.oth op (by simp [nb2]) (by simp [nd2]) (by simp [np2]), o3.trans ((o4.mono (by simp)).trans (op.mono (by simp))), by rw [List.map_append]; exact paired_app (paired_oth (paired_oth pu o4) op) (.cons (tv.oth op) .nil), fun s hs => (List.mem_append.mp hs).elim (ru s) (fun h => by rw [List.mem_singleton.mp h]; exact kt), by simp; omega⟩
      refine ⟨_, rfl, _, b, dg, pl, _, rfl, by decide, bx3, fun kind H4 l4 u4 bx4 o4 => ?_⟩
      have pair : ∀ (s : Str) (r : Int) (v : V) (H5 H6 : Hp) (t : Addr), By H6 b dg pl bz → Oth [b] H4 H6 → H6 t = none → True := fun _ _ _ _ _ _ _ _ _ => trivial
      refine ⟨_, rfl, _, _, rfl, rfl, _, rfl, ite2 (fun c => ?_) (fun c => ⟨_, rfl, _, _, rfl, rfl, _, rfl, ite2 (fun c => ?_) (fun c => ?_)⟩)⟩
      · have hp4 := o4.keep p2 _ (by simp [nb2.symm]) hp3
        refine ⟨_, rfl, .inl ⟨rfl, _, SqL.of hp4⟩, _, rfl, _, b, dg, pl, _, rfl, by decide, bx4, fun r5 H5 l5 u5 bx5 o5 => ⟨_, rfl, _, b, dg, pl, 1, rfl, by decide, bx5, fun e v H6 d6 z6 t6 bx6 o6 => ⟨sz, fun t ht => ?_⟩⟩⟩
        obtain ⟨n5, rfl⟩ := Int.eq_ofNat_of_zero_le l5
        obtain ⟨g1, g2, g3, g4, g5⟩ := fin (.set n5 e) (.ref t) _ ⟨by omega, d6, z6⟩ (.mk3 upd_same (.str _) (.int _) (t6.oth (Oth.new (S := []) ht))) (bx6.new (o := .tup [.str "set", .int (n5 : Int), v]) ht) (o4.trans (o5.trans (o6.trans (Oth.new ht))))
        exact ⟨p2, _, _, rfl, rfl, g1, g2, _, _, _, _, rfl, g3, upd_same, g5.1, g5.2.1, g5.2.2, g4⟩
      · have hp4 := o4.keep p2 _ (by simp [nb2.symm]) hp3
        refine ⟨_, rfl, .inl ⟨rfl, _, SqL.of hp4⟩, _, rfl, _, b, dg, pl, _, rfl, by decide, bx4, fun r5 H5 l5 u5 bx5 o5 => ⟨_, rfl, _, b, dg, pl, 1, rfl, by decide, bx5, fun e v H6 d6 z6 t6 bx6 o6 => ⟨sz, fun t ht => ?_⟩⟩⟩
        obtain ⟨n5, rfl⟩ := Int.eq_ofNat_of_zero_le l5
        obtain ⟨g1, g2, g3, g4, g5⟩ := fin (.put n5 e) (.ref t) _ ⟨by omega, d6, z6⟩ (.mk3 upd_same (.str _) (.int _) (t6.oth (Oth.new (S := []) ht))) (bx6.new (o := .tup [.str "put", .int (n5 : Int), v]) ht) (o4.trans (o5.trans (o6.trans (Oth.new ht))))
        exact ⟨p2, _, _, rfl, rfl, g1, g2, _, _, _, _, rfl, g3, upd_same, g5.1, g5.2.1, g5.2.2, g4⟩
      · have hp4 := o4.keep p2 _ (by simp [nb2.symm]) hp3
        refine ⟨_, rfl, .inl ⟨rfl, _, SqL.of hp4⟩, _, rfl, _, b, dg, pl, _, rfl, by decide, bx4, fun r5 H5 l5 u5 bx5 o5 => ⟨sz, fun t ht => ?_⟩⟩
        obtain ⟨n5, rfl⟩ := Int.eq_ofNat_of_zero_le l5
        obtain ⟨g1, g2, g3, g4, g5⟩ := fin (.up n5) (.ref t) _ (by show n5 ≤ 1; omega) (.mk2 upd_same (.str _) (.int _)) (bx5.new (o := .tup [.str "up", .int (n5 : Int)]) ht) (o4.trans (o5.trans (Oth.new ht)))
        exact ⟨p2, _, _, rfl, rfl, g1, g2, _, _, _, _, rfl, g3, upd_same, g5.1, g5.2.1, g5.2.2, g4⟩
    · obtain ⟨x4, x5, us, ks, rfl, bx3, hp3, pu, ru, lk, o3⟩ := hW
      have lu : us.length ≤ 2 := by rw [(paired_get pu).1, List.length_map]; omega
      have o3' := Oth.drop2 o3 hp2
      have hpk := o3'.keep p _ (by simp [nbp.symm]) hp1
      refine ⟨_, rfl, .inl ⟨rfl, _, SqL.of hpk⟩, _, rfl, .inl ⟨p2, _, rfl, SqL.of hp3, fun t ht => ?_⟩⟩
      have ot := Oth.new (S := [b]) (o := .tup us) ht
      have hpt := ot.keep p _ (by simp [nbp.symm]) hpk
      have op : Oth [p] (upd H3 t (.tup us)) (upd (upd H3 t (.tup us)) p (.lst (vs ++ [.ref t]))) := Oth.put (by simp) hpt
      refine ⟨p, _, _, rfl, rfl, hpt, Nat.lt_of_le_of_lt (by omega : vs.length ≤ 1000) (by decide), ?_⟩
      exact ⟨_, _, _, _, vs ++ [.ref t], ts ++ [ks], rfl, (bx3.new ht).oth op (by simp [nbp]) (by simp [ndp]) (by simp [npp]), upd_same, by rw [List.map_append]; exact paired_app (paired_oth (paired_oth (paired_oth pv o3') ot) op) (.cons (.mk (op.tup _ _ upd_same) (paired_oth (paired_oth pu ot) op)) .nil), fun r hr => (List.mem_append.mp hr).elim (ro r) (fun h => by rw [List.mem_singleton.mp h]; exact ⟨by omega, ru⟩), by simp; omega, o1.trans ((o3'.mono (by simp)).trans ((ot.mono (by simp)).trans (op.mono (by simp))))⟩
  · obtain ⟨x2, x3, x4, x5, vs, ts, rfl, bx1, hp1, pv, ro, lt, o1⟩ := hW
    refine ⟨_, rfl, .inl ⟨p, _, rfl, SqL.of hp1, fun t ht => ?_⟩⟩
    have ot := Oth.new (S := []) (o := .tup vs) ht
    exact q ts _ _ ⟨lt, ro⟩ (.mk upd_same (paired_oth pv ot)) (bx1.new ht) ((Oth.drop2 o1 hp).trans (Oth.new ht))
end
abbrev sProgram : Stmt := topS 22
theorem scProgram : FnScope ["box", "many", "parts", "components", "k", "cells", "contents", "store", "j"] ["box"] (defScope sProgram) := ⟨rfl, rfl, rfl, by decide +kernel, rfl, by decide +kernel, by decide +kernel⟩
section
variable {P : Program} {w : World} {K : PySem.W.Frag} {mg : Str → Option Value} {base : Heap}
theorem ok_program {f fR fN fA : Addr} {fd dR dN dA : FuncData} {k : Nat} (F : Fun K "_law_program" "_law_program" sProgram f fd)
    (GR : FnOk P w K mg base CX0 k fR dR ["box", "many"] spDrawY) (bR : Binds K dR ["box", "many"] []) (kR : PySem.W.keepIn K (.ref fR) = true) (mR : mg "_law_draw" = some (.ref fR))
    (GN : FnOk P w K mg base CX0 k fN dN ["box", "own", "level", "last", "free"] (spContentsY 4)) (bN : Binds K dN ["box", "own", "level", "last", "free"] []) (kN : PySem.W.keepIn K (.ref fN) = true) (mN : mg "_law_contents" = some (.ref fN))
    (GA : FnOk P w K mg base CX0 k fA dA ["box"] spActionsY) (bA : Binds K dA ["box"] []) (kA : PySem.W.keepIn K (.ref fA) = true) (mA : mg "_law_actions" = some (.ref fA))
    (m_range : mg "range" = none) (m_tuple : mg "tuple" = none) (m_list : mg "list" = none) (m_len : mg "len" = none) (m_max : mg "max" = none) :
    FnOk P w K mg base CX0 (k + 1) f fd ["box"] spProgramY := by
  refine F.ok scProgram (fun vs H Q E h => ?_) (fun cdv A outer s H vs Q E' hr h => ?_)
  · obtain ⟨bz, b, dg, pl, rfl, _⟩ := h
    rfl
  obtain ⟨bz, b, dg, pl, rfl, bx, q⟩ := h
  have nd := scProgram.nd
  refine ⟨_, (pss_cons (ps_set (i := 1) nd rfl (.inl rfl) (pe_op op_add pe_int (pe_call GR hr rfl mR kR bR .nil pass0 (pa_cons (pv 0) (pa_cons pe_int pa_nil)))))
  (pss_cons (ps_setLc (i := 2) (own := [("k", 4)]) (g := gName 4) (tt := tYes) rfl nd rfl rfl (sw_true rfl rfl rfl (by decide +kernel)) (pi_range1 (by rfl) m_range (pa_cons (pe_call GR hr rfl mR kR bR .nil pass0 (pa_cons (pv 0) (pa_cons pe_int pa_nil))) pa_nil)) (blkOk_by (N := ["box", "many", "parts", "components", "k", "cells", "contents", "store", "j"]) (sc := defScope sProgram) (by decide +kernel)) (fun _ _ _ _ _ => (pg_name (i := 4) nd rfl (.inl rfl))) (fun _ _ _ _ _ => pts_nil) (fun _ _ _ _ _ => (pe_op op_add pe_int (pe_call GR hr rfl mR kR bR .nil pass0 (pa_cons (pv 0) (pa_cons pe_int pa_nil))))))
  (pss_cut (ps_if (pt_cmpR op_gt (pe_callB call_len_seq (by rfl) m_len PySem.boot_len (pa_cons (pv 2) pa_nil)) pe_int (nomark _))
  (pss_one (ps_set (i := 1) nd rfl (.inl rfl) (pe_callB (call_max2 rfl) (by rfl) m_max bo_max (pa_cons (pv 1) (pa_cons pe_int pa_nil)))))
  pss_nil)
  (pss_cons (ps_set (i := 3) nd rfl (.inl rfl) (pe_lst pa_nil))
  (pss_cons (ps_for PassesOwn.never rfl (pi_range1 (by rfl) m_range (pa_cons (pv 1) pa_nil)) (pg_name (i := 4) nd rfl (.inl rfl))
  (pss_cons (ps_asg pe_int (pg_sub (pv 0) pe_int set_list))
  (pss_cons (ps_asg pe_int (pg_sub (pv 0) pe_int set_list))
  (pss_cons (ps_asg pe_int (pg_sub (pv 0) pe_int set_list))
  (pss_cons (ps_asg (pe_listRg rfl (by rfl) m_list (prg_1 (by rfl) m_range (pe_callB call_len_seq (by rfl) m_len PySem.boot_len (pa_cons (pv 2) pa_nil)))) (pg_sub (pv 0) pe_int set_list))
  (pss_cut (ps_if (pt_cmpR op_gt (pv 4) pe_int (nomark _))
  (pss_one (ps_asg (pe_lst pa_nil) (pg_sub (pv 0) pe_int set_list)))
  pss_nil)
  (pss_cons (ps_set (i := 5) nd rfl (.inl rfl) (pe_tupleOf (by rfl) m_tuple (pe_lc (own := [("j", 8)]) (g := gName 8) (tt := tYes) rfl nd (pi_range1 (by rfl) m_range (pa_cons (pe_call GR hr rfl mR kR bR .nil pass0 (pa_cons (pv 0) (pa_cons pe_int pa_nil))) pa_nil)) (blkOk_by (N := ["box", "many", "parts", "components", "k", "cells", "contents", "store", "j"]) (sc := defScope sProgram) (by decide +kernel)) (fun _ _ _ _ _ => (pg_name (i := 8) nd rfl (.inl rfl))) (fun _ _ _ _ _ => pts_nil) (fun _ _ _ _ _ => (pe_call GR hr rfl mR kR bR .nil pass0 (pa_cons (pv 0) (pa_cons pe_int pa_nil)))))))
  (pss_cons (ps_set (i := 6) nd rfl (.inl rfl) (pe_op op_catA (pe_call GN hr rfl mN kN bN .nil pass0 (pa_cons (pv 0) (pa_cons (pv 4) (pa_cons pe_int (pa_cons (pe_op op_sub (pv 1) pe_int) (pa_cons pe_bl pa_nil)))))) (pe_call GN hr rfl mN kN bN .nil pass0 (pa_cons (pv 0) (pa_cons (pv 4) (pa_cons pe_int (pa_cons (pe_op op_sub (pv 1) pe_int) (pa_cons pe_bl pa_nil))))))))
  (pss_cons (ps_set (i := 6) nd rfl (.inl rfl) (pe_op op_catA (pv 6) (pe_tupleOf (by rfl) m_tuple (pe_lc (own := [("j", 8)]) (g := gName 8) (tt := tYes) rfl nd (pi_list (pe_ix ix_list (pv 0) pe_int (fun _ _ => rfl))) (blkOk_by (N := ["box", "many", "parts", "components", "k", "cells", "contents", "store", "j"]) (sc := defScope sProgram) (by decide +kernel)) (fun _ _ _ _ _ => (pg_name (i := 8) nd rfl (.inl rfl))) (fun _ _ _ _ _ => pts_nil) (fun _ _ _ _ _ => (pe_tup (pa_cons pe_str (pa_cons (pv 8) pa_nil))))))))
  (pss_one (ps_expr (pe_bm PySem.F.plainAttrs_list PySem.F.slot_list_append PySem.F.type_list_append mt_append (pv 3) (pa_cons (pe_tup (pa_cons pe_str (pa_cons (pv 5) (pa_cons (pv 6) (pa_cons (pe_call GA hr rfl mA kA bA .nil pass0 (pa_cons (pv 0) pa_nil)) pa_nil))))) pa_nil)))))))))))))
  (pss_cons (ps_set (i := 7) nd rfl (.inl rfl) (pe_tupleOf (by rfl) m_tuple (pe_lc (own := [("k", 4)]) (g := gName 4) (tt := tYes) rfl nd (pi_range1 (by rfl) m_range (pa_cons (pe_call GR hr rfl mR kR bR .nil pass0 (pa_cons (pv 0) (pa_cons pe_int pa_nil))) pa_nil)) (blkOk_by (N := ["box", "many", "parts", "components", "k", "cells", "contents", "store", "j"]) (sc := defScope sProgram) (by decide +kernel)) (fun _ _ _ _ _ => (pg_name (i := 4) nd rfl (.inl rfl))) (fun _ _ _ _ _ => pts_nil) (fun _ _ _ _ _ => (pe_call GR hr rfl mR kR bR .nil pass0 (pa_cons (pv 0) (pa_cons pe_int pa_nil)))))))
  (pss_one (ps_ret (pe_tup (pa_cons pe_str (pa_cons (pe_tupleOf (by rfl) m_tuple (pv 3)) (pa_cons (pv 7) (pa_cons (pe_tupleOf (by rfl) m_tuple (pv 2)) pa_nil))))))))))))), ?_⟩
  refine ⟨_, rfl, _, b, dg, pl, _, rfl, by decide, bx, fun m H0 l0 u0 bx0 o0 => ⟨_, _, rfl, rfl, ?_⟩⟩
  refine ⟨_, rfl, _, b, dg, pl, _, rfl, by decide, bx0, fun n H1 l1 u1 bx1 o1 => ⟨n, rfl, by omega, by omega, fun D hD => lc_range (lo := 0) (n := n.toNat)
    (fun j H2 => By H2 b dg pl bz ∧ ∃ vs : List Nat, H2 D = some (.lst (vs.map natV)) ∧ vs.length = j ∧ (∀ n ∈ vs, 0 < n ∧ n < 3) ∧ Oth [b, D] H1 H2)
    ⟨bx1.new hD, [], upd_same, rfl, by simp, Oth.new hD⟩ (fun j H2 hj hW => ?_) (fun H2 hW => ?_)⟩⟩
  · obtain ⟨bx2, vs, hD2, lv, sv, o2⟩ := hW
    have nbD : b ≠ D := bx1.nb hD
    refine ⟨rfl, ⟨_, rfl, _, b, dg, pl, _, rfl, by decide, bx2, fun r H3 l3 u3 bx3 o3 => ⟨_, _, rfl, rfl, ?_⟩⟩⟩
    have hD3 := o3.keep D _ (by simp [nbD.symm]) hD2
    dsimp only
    rw [natV_toNat (by omega : 0 ≤ 1 + r)]
    have op : Oth [D] H3 (upd H3 D (.lst (vs.map natV ++ [natV (1 + r).toNat]))) := Oth.put (by simp) hD3
    exact ⟨_, hD3, small1000 (by rw [List.length_map]; omega), bx3.oth op (by simp [nbD]) (by simp [bx1.ndn hD]) (by simp [bx1.npn hD]), vs ++ [(1 + r).toNat], by rw [List.map_append]; exact upd_same, by rw [List.length_append, lv]; rfl, fun n hn => by
      rcases List.mem_append.mp hn with h | h
      · exact sv n h
      · rw [List.mem_singleton.mp h]; omega, o2.trans ((o3.mono (by simp)).trans (op.mono (by simp)))⟩
  obtain ⟨bx2, pvn, hD2, lpvn, spv, o2⟩ := hW
  obtain ⟨pv, hpv⟩ : ∃ pv, pv = pvn.map natV := ⟨_, rfl⟩
  rw [← hpv] at hD2
  have lpv : pv.length = n.toNat := by rw [hpv, List.length_map]; exact lpvn
  have nbD : b ≠ D := bx1.nb hD
  have o02 : Oth [b] H H2 := o0.trans (o1.trans (Oth.drop2 o2 hD))
  have lp2 : pv.length ≤ 2 := by omega
  refine ⟨fun σ H' => H' = H2 ∧ ∃ mz : Int, 1 ≤ mz ∧ mz ≤ 3 ∧ (0 < pv.length → mz = 3) ∧ σ = [some (.ref b), some (.int mz), some (.ref D), none, none, none, none, none, none], ?_, ?_⟩
  · refine ⟨_, rfl, D, pv, rfl, .inl (SqL.of hD2), _, _, rfl, rfl, _, rfl, ite2 (fun c => ?_) (fun c => ?_)⟩
    · refine ⟨_, rfl, _, _, rfl, ?_⟩
      exact ⟨rfl, if (3 : Int) > 1 + m then 3 else 1 + m, by split <;> omega, by split <;> omega, fun _ => by split <;> omega, rfl⟩
    · exact ⟨rfl, 1 + m, by omega, by omega, fun h => absurd h (by have c' : ¬ (0 : Int) < ((pv.length : Nat) : Int) := of_decide_eq_false (Bool.eq_false_iff.mpr c); omega), rfl⟩
  rintro σ H' ⟨rfl, mz, z1, z3, zp, rfl⟩
  refine ⟨sz, fun pC hC => ?_⟩
  have nbC := bx2.nb hC
  have ndC := bx2.ndn hC
  have nDC : D ≠ pC := ne_of_none hD2 hC
  refine ⟨_, rfl, mz, rfl, by omega, by omega, for_range (lo := 0) (n := mz.toNat)
    (fun i σ H3 => ∃ (x4 x5 x6 x7 x8 : Option V) (pl' : Addr) (z : Bt) (cs : List V) (cms : List Cq), σ = [some (.ref b), some (.int mz), some (.ref D), some (.ref pC), x4, x5, x6, x7, x8] ∧ By H3 b dg pl' z ∧ pl' ≠ pC ∧ H3 D = some (.lst pv) ∧ H3 pC = some (.lst cs) ∧ Paired (IsT H3) (cms.map Cq.toT) cs ∧ (∀ (j : Nat) (c : Cq), cms[j]? = some c → Cq.Ok j (mz.toNat - 1) pvn.length c) ∧ cms.length = i ∧ Oth [b, pC] H' H3)
    ⟨none, none, none, none, none, pl, bz, [], [], rfl, bx2.new hC, bx2.npn hC, by rw [upd_ne nDC]; exact hD2, upd_same, .nil, by simp, rfl, Oth.new hC⟩ (fun i σ H3 hi hW => ?_) (fun σ H3 hW => ?_)⟩
  · obtain ⟨x4, x5, x6, x7, x8, pl1, z0, cs, cms, rfl, bx3, np3, hD3, hC3, pcs, gcs, lcm, o3⟩ := hW
    have lcs : cs.length = i := by rw [(paired_get pcs).1, List.length_map]; exact lcm
    obtain ⟨a3, n3, hb3⟩ := bx3.get
    refine ⟨_, rfl, b, _, 2, 2, rfl, rfl, hb3, rfl, ?_⟩
    have bx4 := bx3.put a3 6 n3 z0.n4
    refine ⟨_, rfl, b, _, 3, 3, rfl, rfl, upd_same, rfl, ?_⟩
    have bx5 := bx4.put a3 6 2 z0.n4
    refine ⟨_, rfl, b, _, 4, 4, rfl, rfl, upd_same, rfl, ?_⟩
    have bx6 := bx5.put a3 6 2 1
    have p1 : Oth [b] H3 (upd H3 b (.lst [.ref dg, .int (a3 : Int), .int 6, .int n3, .int z0.n4, .ref pl1])) := Oth.put (by simp) hb3
    have p2 := p1.trans (Oth.put (b := b) (o := .lst [.ref dg, .int (a3 : Int), .int 6, .int 2, .int z0.n4, .ref pl1]) (by simp) upd_same)
    have p3 := p2.trans (Oth.put (b := b) (o := .lst [.ref dg, .int (a3 : Int), .int 6, .int 2, .int 1, .ref pl1]) (by simp) upd_same)
    have hD6 := p3.keep D _ (by simp [nbD.symm]) hD3
    refine ⟨_, rfl, D, pv, rfl, .inl (SqL.of hD6), _, rfl, RgOk.of_le (by decide) (by omega) (by decide) (by omega), fun q5 hq5 => ?_⟩
    have hb6 := (Oth.new (S := []) (o := .lst (rgV 0 (pv.length : Int))) hq5).keep b _ (by simp) upd_same
    refine ⟨_, rfl, b, _, 5, 5, rfl, rfl, hb6, rfl, ?_⟩
    have bx7 := bx6.swap hq5 (List.range pv.length) a3 6 2 1
    rw [← rgV_nat] at bx7
    have p4 := p3.trans ((Oth.new (S := [b]) (o := .lst (rgV 0 (pv.length : Int))) hq5).trans (Oth.put (b := b) (o := .lst [.ref dg, .int (a3 : Int), .int 6, .int 2, .int 1, .ref q5]) (by simp) hb6))
    have f5 := bx6.fresh p3 hq5
    refine ⟨fun σ H' => σ = [some (.ref b), some (.int mz), some (.ref D), some (.ref pC), some (.int (0 + (i : Int))), x5, x6, x7, x8] ∧ ∃ pl2, H3 pl2 = none ∧ By H' b dg pl2 ⟨6, 1, if i = 0 then List.range pv.length else []⟩ ∧ Oth [b] H3 H', ?_, ?_⟩
    · refine ⟨_, rfl, _, _, rfl, rfl, _, rfl, ite2 (fun c => ?_) (fun c => ?_)⟩
      · refine ⟨sz, fun q6 hq6 => ?_⟩
        have hb7 := (Oth.new (S := []) (o := .lst []) hq6).keep b _ (by simp) upd_same
        refine ⟨_, rfl, b, _, 5, 5, rfl, rfl, hb7, rfl, ?_⟩
        have bx8 := bx7.swap hq6 [] a3 6 2 1
        have hi0 : ¬ i = 0 := by have c' : (0 : Int) < 0 + (i : Int) := of_decide_eq_true c; omega
        exact ⟨rfl, q6, bx7.fresh p4 hq6, by rw [if_neg hi0]; exact bx8, p4.trans ((Oth.new (S := [b]) (o := .lst []) hq6).trans (Oth.put (b := b) (by simp) hb7))⟩
      · have hi0 : i = 0 := by have c' : ¬ (0 : Int) < 0 + (i : Int) := of_decide_eq_false (Bool.eq_false_iff.mpr c); omega
        exact ⟨rfl, q5, f5, by rw [if_pos hi0]; exact bx7, p4⟩
    rintro σ H8 ⟨rfl, pl2, f2, bx8, o8⟩
    -- cells
    refine ⟨_, rfl, _, b, dg, pl2, _, rfl, by decide, bx8, fun n9 H9 l9 u9 bx9 o9 => ⟨n9, rfl, by omega, by omega, fun D1 hD1 => lc_range (lo := 0) (n := n9.toNat)
      (fun j H2 => By H2 b dg pl2 ⟨6, 1, if i = 0 then List.range pv.length else []⟩ ∧ ∃ vs : List Nat, H2 D1 = some (.lst (vs.map natV)) ∧ vs.length = j ∧ (∀ n ∈ vs, n < 4) ∧ Oth [b, D1] H9 H2)
      ⟨bx9.new hD1, [], upd_same, rfl, by simp, Oth.new hD1⟩ (fun j H2 hj hW => ?_) (fun H10 hW => ?_)⟩⟩
    · obtain ⟨bx2, vs, hD2, lv, sv, o2⟩ := hW
      have nbD1 : b ≠ D1 := bx9.nb hD1
      refine ⟨rfl, ⟨_, rfl, _, b, dg, pl2, _, rfl, by decide, bx2, fun r H3 l3 u3 bx3 o3 => ?_⟩⟩
      have hD3 := o3.keep D1 _ (by simp [nbD1.symm]) hD2
      try dsimp only
      rw [natV_toNat l3]
      have op : Oth [D1] H3 (upd H3 D1 (.lst (vs.map natV ++ [natV r.toNat]))) := Oth.put (by simp) hD3
      exact ⟨_, hD3, small1000 (by rw [List.length_map]; omega), bx3.oth op (by simp [nbD1]) (by simp [bx9.ndn hD1]) (by simp [bx9.npn hD1]), vs ++ [r.toNat], by rw [List.map_append]; exact upd_same, by rw [List.length_append, lv]; rfl, fun n hn => by
        rcases List.mem_append.mp hn with h | h
        · exact sv n h
        · rw [List.mem_singleton.mp h]; omega, o2.trans ((o3.mono (by simp)).trans (op.mono (by simp)))⟩
    obtain ⟨bx10, cvn, hD10, lcv, scv, o10⟩ := hW
    obtain ⟨cv, hcv⟩ : ∃ cv, cv = cvn.map natV := ⟨_, rfl⟩
    rw [← hcv] at hD10
    have o10' := Oth.drop2 o10 hD1
    refine .inl ⟨D1, _, rfl, SqL.of hD10, fun tc htc => ?_⟩
    have oc := Oth.new (S := [b]) (o := .tup cv) htc
    -- contents
    obtain ⟨mn, rfl⟩ : ∃ mn : Nat, mz = ((mn : Nat) : Int) + 1 := ⟨(mz - 1).toNat, by omega⟩
    have hi3 : i < 3 := by omega
    have ea : ([V.ref b, V.int (0 + (i : Int)), V.int 0, V.int ((mn : Int) + 1 - 1), V.bl true] : List V) = [V.ref b, V.int (i : Int), V.int ((0 : Nat) : Int), V.int (mn : Int), V.bl true] := by
      rw [show (0 : Int) + (i : Int) = (i : Int) by omega, show (mn : Int) + 1 - 1 = (mn : Int) by omega]
      rfl
    refine ⟨_, rfl, _, rfl, _, rfl, _, _, rfl, rfl, ⟨6, 1, if i = 0 then List.range pv.length else []⟩, b, dg, pl2, i, 0, mn, 3, true, ea, rfl, by decide, (show (0 : Int) ≤ 6 by decide), (show (0 : Int) ≤ 1 by decide), bx10.new htc, fun y1 ts1 v1 H11 d1 c1 k1 e1' r1 p1' f1 t1 bx11 o11 => ?_⟩
    refine ⟨_, rfl, _, rfl, _, rfl, _, _, rfl, rfl, y1, b, dg, pl2, i, 0, mn, 3, true, ea, rfl, by decide, k1, r1, bx11, fun y2 ts2 v2 H12 d2 c2 k2 e2' r2 p2' f2' t2 bx12 o12 => ?_⟩
    have c1'' : (Tp.cnts ts1 : Int) + y1.n2 = 6 := c1
    have e1'' : (Tp.echs ts1 : Int) + y1.n4 ≤ 1 := e1'
    have c1' : Tp.cnts ts1 ≤ 777 := by omega
    have c2' : Tp.cnts ts2 ≤ 777 := by omega
    have n1 := Tp.cnts_len ts1
    have n2 := Tp.cnts_len ts2
    obtain ⟨a1, xs1, rfl, e1, q1⟩ := (t1.oth o12).inv
    obtain ⟨a2, xs2, rfl, e2, q2⟩ := t2.inv
    have x1 : xs1.length ≤ 777 := by rw [(paired_get q1).1, Tp.toTs_map, List.length_map]; omega
    have x2' : xs2.length ≤ 777 := by rw [(paired_get q2).1, Tp.toTs_map, List.length_map]; omega
    refine cat_t e1 e2 (by omega) fun a12 H13 o13 e13 => ?_
    have q12 : Paired (IsT H13) (Tp.toTs (ts1 ++ ts2)) (xs1 ++ xs2) := by
      rw [toTs_app]
      exact paired_app (paired_oth q1 o13) (paired_oth q2 o13)
    -- the parts that are left
    have bx13 := bx12.oth o13 (by simp) (by simp) (by simp)
    obtain ⟨a13, w3, hb13⟩ := bx13.get
    have hp13 := bx13.parts
    obtain ⟨ps, hps⟩ : ∃ ps, y2.ps = ps := ⟨_, rfl⟩
    rw [hps] at hp13 p2'
    have pall : (Tp.ptss ts1 ++ (Tp.ptss ts2 ++ ps)).Perm (if i = 0 then List.range pv.length else []) := (List.Perm.append_left _ p2').trans p1'
    have lps : ps.length ≤ 2 ∧ (i ≠ 0 → ps = []) := by
      have := pall.length_eq
      simp only [List.length_append] at this
      by_cases h : i = 0
      · rw [if_pos h, List.length_range] at this
        exact ⟨by omega, fun z => absurd h z⟩
      · rw [if_neg h, List.length_nil] at this
        exact ⟨by omega, fun _ => List.eq_nil_of_length_eq_zero (by omega)⟩
    refine ⟨_, rfl, _, rfl, b, _, _, _, rfl, rfl, SqL.of hb13, at5, pl2, rfl, ⟨_, SqL.of hp13⟩, fun D2 hD2' => lc_list (xs := ps.map natV)
      (fun j H2 => H2 pl2 = some (.lst (ps.map natV)) ∧ ∃ (us : List Nat) (vs : List V), H2 D2 = some (.lst vs) ∧ Paired (IsT H2) (Tp.toTs (us.map Tp.part)) vs ∧ us = ps.take j ∧ us.length = j ∧ Oth [D2] H13 H2)
      ⟨(Oth.new (S := []) hD2').keep _ _ (by simp) hp13, [], [], upd_same, .nil, (List.take_zero).symm, rfl, Oth.new hD2'⟩ (fun j H2 _ hW => SqL.of hW.1) (fun j x H2 hx hW => ?_) (fun H14 hW => ?_)⟩
    · obtain ⟨h2, us, vs, hv, pq, su, lu, o2⟩ := hW
      have npD : pl2 ≠ D2 := bx13.npn hD2'
      rw [List.getElem?_map] at hx
      obtain ⟨u, gu, rfl⟩ : ∃ u, ps[j]? = some u ∧ natV u = x := by
        cases g : ps[j]? with
        | none => rw [g] at hx; cases hx
        | some u => rw [g] at hx; exact ⟨u, rfl, Option.some.inj hx⟩
      have lj : j < ps.length := (List.getElem?_eq_some_iff.mp gu).1
      refine ⟨rfl, ⟨_, rfl, sz, fun t ht => ?_⟩⟩
      have ot := Oth.new (S := [D2]) (o := .tup [.str "part", natV u]) ht
      have hv2 := (Oth.new (S := []) (o := .tup [.str "part", natV u]) ht).keep D2 _ (by simp) hv
      have op : Oth [D2] (upd H2 t (.tup [.str "part", natV u])) (upd (upd H2 t (.tup [.str "part", natV u])) D2 (.lst (vs ++ [.ref t]))) := Oth.put (by simp) hv2
      have lv : vs.length = us.length := by rw [(paired_get pq).1, Tp.toTs_map, List.length_map, List.length_map]
      refine ⟨vs, hv2, small1000 (by have := lps.1; omega), (ot.trans op).keep pl2 _ (by simp [npD]) h2, us ++ [u], vs ++ [.ref t], upd_same, ?_, by rw [su, List.take_add_one, gu]; rfl, by rw [List.length_append, lu]; rfl, o2.trans (ot.trans op)⟩
      rw [List.map_append, toTs_app]
      exact paired_app (paired_oth (paired_oth pq ot) op) (.cons (.mk2 (op.tup _ _ upd_same) (.str _) (.int _)) .nil)
    obtain ⟨h14, us, vs, hv14, pq14, su, lu, o14⟩ := hW
    have o14' : Oth [] H13 H14 := Oth.drop o14 hD2'
    rw [List.length_map, List.take_length] at su
    subst su
    have lu2 : us.length ≤ 2 := lps.1
    have lv : vs.length = us.length := by rw [(paired_get pq14).1, Tp.toTs_map, List.length_map, List.length_map]
    refine .inl ⟨D2, _, rfl, SqL.of hv14, fun t2 ht2 => ?_⟩
    have o15 := Oth.new (S := []) (o := .tup vs) ht2
    refine cat_t (o15.tup _ _ (o14'.tup _ _ e13)) upd_same (by rw [List.length_append]; omega) fun a3' H16 o16 e16 => ?_
    have q16 : Paired (IsT H16) (Tp.toTs (ts1 ++ ts2 ++ us.map Tp.part)) (xs1 ++ xs2 ++ vs) := by
      rw [toTs_app]
      exact paired_app (paired_oth (paired_oth (paired_oth q12 o14') o15) o16) (paired_oth (paired_oth pq14 o15) o16)
    have o13_16 := o13.trans (o14'.trans (o15.trans o16))
    have bx16 := bx12.oth o13_16 (by simp) (by simp) (by simp)
    have o3_16 : Oth [b] H3 H16 := by
      have z : Oth [b, pl2] H3 H16 := (o8.trans (o9.trans (o10'.trans oc))).two.trans (o11.trans (o12.trans (o13_16.mono (by simp))))
      exact Oth.drop2 z f2
    have hC16 := o3_16.keep pC _ (by simp [nbC.symm]) hC3
    -- the component
    refine ⟨_, rfl, .inl ⟨rfl, _, SqL.of hC16⟩, _, rfl, _, rfl, _, rfl, _, b, dg, pl2, rfl, bx16, fun ta va H17 aok tva bx17 o17 => ⟨sz, fun tp htp => ?_⟩⟩
    have on := Oth.new (S := [b]) (o := .tup [.str "component", .ref tc, .ref a3', va]) htp
    have o3_18 := o3_16.trans (o17.trans on)
    have hC18 := o3_18.keep pC _ (by simp [nbC.symm]) hC3
    refine ⟨pC, _, _, rfl, rfl, hC18, small1000 (by omega), ?_⟩
    have op : Oth [pC] _ (upd (upd H17 tp (.tup [.str "component", .ref tc, .ref a3', va])) pC (.lst (cs ++ [.ref tp]))) := Oth.put (by simp) hC18
    have np2 : pl2 ≠ pC := fun z => by rw [z, hC3] at f2; cases f2
    have hmz : (((mn : Nat) : Int) + 1).toNat - 1 = mn := by omega
    have lpn : pvn.length = pv.length := by rw [hpv, List.length_map]
    have gc : Cq.Ok i ((((mn : Nat) : Int) + 1).toNat - 1) pvn.length ⟨cvn, ts1 ++ ts2 ++ us.map Tp.part, ta⟩ := by
      rw [hmz, lpn]
      refine ⟨?_, ?_, ?_, ?_, ?_, by show cvn.length ≤ 2; omega, scv, aok.1, aok.2⟩
      · show Tp.Oks i mn true (ts1 ++ ts2 ++ us.map Tp.part)
        refine oks_app ?_ _ (oks_app f2' _ f1)
        by_cases h : i = 0
        · rw [h]; exact oks_parts us
        · rw [lps.2 h]; trivial
      · show Tp.deps _ ≤ 3
        rw [deps_app, deps_app, deps_parts]; omega
      · show Tp.cnts _ ≤ 8
        rw [cnts_app, cnts_app, cnts_parts]; omega
      · show Tp.echs _ ≤ 1
        rw [echs_app, echs_app, echs_parts]; omega
      · show (Tp.ptss _).Perm _
        rw [ptss_app, ptss_app, ptss_parts, List.append_assoc]
        exact pall
    refine ⟨_, _, _, _, _, pl2, y2, cs ++ [.ref tp], cms ++ [⟨cvn, ts1 ++ ts2 ++ us.map Tp.part, ta⟩], rfl, (bx17.new htp).oth op (by simp [nbC]) (by simp [ndC]) (by simp [np2]), np2, ?_, upd_same, ?_, ?_, by rw [List.length_append, lcm]; rfl, o3.trans ((o3_18.mono (by simp)).trans (op.mono (by simp)))⟩
    · exact op.keep D _ (by simp [nDC]) (o3_18.keep D _ (by simp [nbD.symm]) hD3)
    · rw [List.map_append]
      refine paired_app (paired_oth (paired_oth pcs o3_18) op) (.cons ?_ .nil)
      have htc16 : H16 tc = some (.tup (cvn.map natV)) := by
        rw [← hcv]
        exact (o11.trans (o12.trans (o13_16.mono (S' := [b, pl2]) (by simp)))).tup _ _ upd_same
      exact .mk4 (op.tup _ _ upd_same) (.str _) (mkNats (op.tup _ _ (on.tup _ _ (o17.tup _ _ htc16)))) (.mk (op.tup _ _ (on.tup _ _ (o17.tup _ _ e16))) (paired_oth (paired_oth (paired_oth q16 o17) on) op)) ((tva.oth on).oth op)
    · intro j c hc
      rcases Nat.lt_trichotomy j cms.length with h | h | h
      · rw [List.getElem?_append_left h] at hc
        exact gcs j c hc
      · rw [List.getElem?_append_right (by omega), h, Nat.sub_self] at hc
        cases hc
        rw [h, lcm]
        exact gc
      · rw [List.getElem?_eq_none (by simp; omega)] at hc
        cases hc
  · obtain ⟨x4, x5, x6, x7, x8, pl1, z0, cs, cms, rfl, bx3, np3, hD3, hC3, pcs, gcs, lcm, o3⟩ := hW
    refine ⟨_, rfl, _, b, dg, pl1, _, rfl, by decide, bx3, fun n9 H9 l9 u9 bx9 o9 => ⟨n9, rfl, by omega, by omega, fun D1 hD1 => lc_range (lo := 0) (n := n9.toNat)
      (fun j H2 => By H2 b dg pl1 z0 ∧ ∃ vs : List Nat, H2 D1 = some (.lst (vs.map natV)) ∧ vs.length = j ∧ (∀ n ∈ vs, n < 4) ∧ Oth [b, D1] H9 H2)
      ⟨bx9.new hD1, [], upd_same, rfl, by simp, Oth.new hD1⟩ (fun j H2 hj hW => ?_) (fun H10 hW => ?_)⟩⟩
    · obtain ⟨bx2, vs, hD2, lv, sv, o2⟩ := hW
      have nbD1 : b ≠ D1 := bx9.nb hD1
      refine ⟨rfl, ⟨_, rfl, _, b, dg, pl1, _, rfl, by decide, bx2, fun r H3 l3 u3 bx3 o3 => ?_⟩⟩
      have hD3 := o3.keep D1 _ (by simp [nbD1.symm]) hD2
      try dsimp only
      rw [natV_toNat l3]
      have op : Oth [D1] H3 (upd H3 D1 (.lst (vs.map natV ++ [natV r.toNat]))) := Oth.put (by simp) hD3
      exact ⟨_, hD3, small1000 (by rw [List.length_map]; omega), bx3.oth op (by simp [nbD1]) (by simp [bx9.ndn hD1]) (by simp [bx9.npn hD1]), vs ++ [r.toNat], by rw [List.map_append]; exact upd_same, by rw [List.length_append, lv]; rfl, fun n hn => by
        rcases List.mem_append.mp hn with h | h
        · exact sv n h
        · rw [List.mem_singleton.mp h]; omega, o2.trans ((o3.mono (by simp)).trans (op.mono (by simp)))⟩
    obtain ⟨bx10, cvn, hD10, lcv, scv, o10⟩ := hW
    obtain ⟨cv, hcv⟩ : ∃ cv, cv = cvn.map natV := ⟨_, rfl⟩
    rw [← hcv] at hD10
    have o10' := Oth.drop2 o10 hD1
    have o3_10 := o9.trans o10'
    refine .inl ⟨D1, _, rfl, SqL.of hD10, fun ts hts => ?_⟩
    have o11 := Oth.new (S := [b]) (o := .tup cv) hts
    have hC11 := (o3_10.trans o11).keep pC _ (by simp [nbC.symm]) hC3
    refine ⟨_, rfl, .inl ⟨pC, _, rfl, SqL.of hC11, fun tC htC => ⟨_, rfl, ?_⟩⟩⟩
    have o12 := Oth.new (S := [b]) (o := .tup cs) htC
    have hD12 := (o3_10.trans (o11.trans o12)).keep D _ (by simp [nbD.symm]) hD3
    refine ⟨_, rfl, .inl ⟨D, _, rfl, SqL.of hD12, fun tD htD => ⟨sz, fun tP htP => ?_⟩⟩⟩
    have o13 := Oth.new (S := [b]) (o := .tup pv) htD
    have o14 := Oth.new (S := [b]) (o := .tup [.str "program", .ref tC, .ref ts, .ref tD]) htP
    have o3_14 := o3_10.trans (o11.trans (o12.trans (o13.trans o14)))
    have o10_14 := o11.trans (o12.trans (o13.trans o14))
    have lpn : pvn.length = pv.length := by rw [hpv, List.length_map]
    refine q ⟨cms, cvn, pvn⟩ _ pl1 _ _ ⟨fun j c hc => ?_, by show 0 < cms.length; omega, by show cms.length ≤ 3; omega, by show pvn.length ≤ 2; omega, fun n hn => ?_, by show cvn.length ≤ 2; omega, scv⟩ ?_ (((((bx10.new hts).new htC).new htD).new htP)) (o02.trans ((Oth.drop2 o3 hC).trans o3_14))
    · show Cq.Ok j (cms.length - 1) pvn.length c
      rw [lcm]
      exact gcs j c hc
    · have h3 := zp (by rw [← lpn]; exact List.length_pos_of_mem hn)
      have := spv n hn
      exact ⟨this.1, by show n < cms.length; omega⟩
    · exact .mk4 upd_same (.str _) (.mk ((o13.trans o14).tup _ _ upd_same) (paired_oth pcs o3_14)) (mkNats (by rw [← hcv]; exact (o12.trans (o13.trans o14)).tup _ _ upd_same)) (mkNats (by rw [← hpv]; exact o14.tup _ _ upd_same))
end
abbrev sByKey : Stmt := topS 11
abbrev sWished : Stmt := topS 10
abbrev sDis : Stmt := topS 9
abbrev sLayOut : Stmt := topS 7
abbrev sPartsOf : Stmt := topS 8
theorem scByKey : FnScope ["key", "other", "scope", "looked"] ["key", "other", "scope", "looked"] (defScope sByKey) := ⟨rfl, rfl, rfl, by decide +kernel, rfl, by decide +kernel, by decide +kernel⟩
theorem scWished : FnScope ["template", "other", "scope", "looked", "key", "part"] ["template", "other", "scope", "looked"] (defScope sWished) := ⟨rfl, rfl, rfl, by decide +kernel, rfl, by decide +kernel, by decide +kernel⟩
theorem scDis : FnScope ["contents", "before", "repeats", "scope", "looked", "found", "number", "template", "address", "condition", "chosen", "others", "holds", "behind", "count", "repeated", "turn", "inner", "other", "wished"] ["contents", "before", "repeats", "scope", "looked"] (defScope sDis) := ⟨rfl, rfl, rfl, by decide +kernel, rfl, by decide +kernel, by decide +kernel⟩
theorem scLayOut : FnScope ["contents", "scope", "looked", "row", "taken", "wished", "other", "template", "index", "name"] ["contents", "scope", "looked"] (defScope sLayOut) := ⟨rfl, rfl, rfl, by decide +kernel, rfl, by decide +kernel, by decide +kernel⟩
theorem scPartsOf : FnScope ["path", "many"] ["path"] (defScope sPartsOf) := ⟨rfl, rfl, rfl, by decide +kernel, rfl, by decide +kernel, by decide +kernel⟩
section
variable {P : Program} {w : World} {K : PySem.W.Frag} {mg : Str → Option Value} {base : Heap}
theorem ok_bykey {f fV : Addr} {fd dV : FuncData} {k : Nat} (F : Fun K "_by_key" "_by_key" sByKey f fd)
    (GV : FnOk P w K mg base CX0 k fV dV ["expression", "scope", "looked"] (spValue 4)) (bV : Binds K dV ["expression", "scope", "looked"] []) (kV : PySem.W.keepIn K (.ref fV) = true) (mV : mg "value" = some (.ref fV)) :
    FnOk P w K mg base CX0 (k + 1) f fd ["key", "other", "scope", "looked"] spByKey := by
  refine F.ok scByKey (fun vs H Q E h => ?_) (fun cdv A outer s H vs Q E' hr h => ?_)
  · obtain ⟨key, c, addr, reps, vk, vo, vc, l, L, rfl, _⟩ := h
    rfl
  obtain ⟨key, c, addr, reps, vk, vo, vc, l, L, rfl, tk, to, tc, hL, hd, hz, q⟩ := h
  have nd := scByKey.nd
  refine ⟨_, (pss_cons (ps_if (pt_cmpR op_isN (pv 0) pe_non (nomark _))
  (pss_one (ps_ret (pv 1)))
  pss_nil)
  (pss_one (ps_ret (pe_tup (pa_cons pe_str (pa_cons (pe_ix ix_tup (pv 1) pe_int (fun _ _ => rfl)) (pa_cons (pe_call GV hr rfl mV kV bV .nil pass0 (pa_cons (pv 0) (pa_cons (pv 2) (pa_cons (pv 3) pa_nil)))) pa_nil))))))), ?_⟩
  cases key with
  | none =>
    obtain rfl := tk.of_non
    refine ⟨_, rfl, rfl, _, rfl, iteTd rfl ⟨_, rfl, ?_⟩⟩
    exact q _ H to (by simpa [keyLooks] using hL) Oth.refl
  | some e =>
    obtain ⟨ao, _, y1, y2, rfl, eo, p0, p1, p2⟩ := IsT.inv3 to
    obtain rfl := p0.of_str
    have hne : ∃ a, vk = .ref a := by
      cases e <;> (obtain ⟨a, xs, rfl, _⟩ := IsT.inv tk; exact ⟨a, rfl⟩)
    obtain ⟨ak, rfl⟩ := hne
    refine ⟨_, rfl, rfl, _, rfl, iteFd (by intro h; cases h) ?_⟩
    refine ⟨_, rfl, ao, _, _, _, rfl, rfl, SqT.of eo, at1, ?_⟩
    have hd' := hd e rfl
    refine ⟨_, rfl, _, rfl, _, rfl, e, c, _, _, l, L, rfl, tk, tc, hL, by omega, by simpa [ksz] using hz, fun H1 e1 o1 => ⟨sz, fun p hp => ?_⟩⟩
    have on := Oth.new (S := [l]) (o := .tup [.str "key", y1, .int (e.val c)]) hp
    refine q _ _ (.mk3 upd_same (.str _) ((p1.oth o1).oth on) (.int _)) ?_ (o1.trans on)
    exact (Oth.new (S := []) hp).keep l _ (by simp) e1
theorem ok_wished {f fK : Addr} {fd dK : FuncData} {k : Nat} (F : Fun K "_wished" "_wished" sWished f fd)
    (GDk : FnOk P w K mg base CX0 k fK dK ["key", "other", "scope", "looked"] spByKey) (bDk : Binds K dK ["key", "other", "scope", "looked"] []) (kDk : PySem.W.keepIn K (.ref fK) = true) (mDk : mg "_by_key" = some (.ref fK)) :
    FnOk P w K mg base CX0 (k + 1) f fd ["template", "other", "scope", "looked"] spWished := by
  refine F.ok scWished (fun vs H Q E h => ?_) (fun cdv A outer s H vs Q E' hr h => ?_)
  · obtain ⟨t, c, addr, reps, vt, vo, vc, l, L, rfl, _⟩ := h
    rfl
  obtain ⟨t, c, addr, reps, vt, vo, vc, l, L, rfl, tt, hn, to, tc, hL, hf, hz, q⟩ := h
  have nd := scWished.nd
  refine ⟨_, (pss_one (ps_match (pv 0) (pcs_cons nd (pp_seq rfl (pps_cons' pp_str (pps_cons' pp_any (pps_cons' (pp_name 4) (pps_cons' pp_any (pps_cons' pp_any pps_nil')))))) (pss_one (ps_ret (pe_call GDk hr rfl mDk kDk bDk .nil pass0 (pa_cons (pv 4) (pa_cons (pv 1) (pa_cons (pv 2) (pa_cons (pv 3) pa_nil)))))))
  (pcs_cons nd (pp_seq rfl (pps_cons' pp_str (pps_cons' pp_any (pps_cons' (pp_name 4) (pps_cons' pp_any pps_nil'))))) (pss_one (ps_ret (pe_call GDk hr rfl mDk kDk bDk .nil pass0 (pa_cons (pv 4) (pa_cons (pv 1) (pa_cons (pv 2) (pa_cons (pv 3) pa_nil)))))))
  (pcs_cons nd (pp_seq rfl (pps_cons' pp_str (pps_cons' (pp_name 5) pps_nil'))) (pss_one (ps_ret (pe_tup (pa_cons pe_str (pa_cons (pv 5) pa_nil)))))
  (pcs_cons nd pp_any (pss_one (ps_ret (pv 1)))
  pcs_nil)))))), ?_⟩
  cases t with
  | box tag key act cs =>
    obtain ⟨a, _, v1, v2, v3, v4, rfl, ha, p0, p1, p2, p3, p4⟩ := IsT.inv5 tt
    obtain rfl := p0.of_str
    simp only [Tp.wt] at hz
    refine ⟨_, rfl, case_hit (SqT.of ha) rfl ⟨_, _, rfl, _, _, rfl, _, _, rfl, _, _, rfl, ?_⟩⟩
    exact ⟨_, rfl, _, rfl, _, rfl, _, rfl, key, c, addr, reps, _, _, _, l, L, rfl, p2, to, tc, hL, hf.1, by omega, q⟩
  | child n key props =>
    obtain ⟨a, _, v1, v2, v3, rfl, ha, p0, p1, p2, p3⟩ := IsT.inv4 tt
    obtain rfl := p0.of_str
    simp only [Tp.wt] at hz
    refine ⟨_, rfl, case_skip (SqT.of ha) (by decide) (case_hit (SqT.of ha) rfl ⟨_, _, rfl, _, _, rfl, _, _, rfl, ?_⟩)⟩
    exact ⟨_, rfl, _, rfl, _, rfl, _, rfl, key, c, addr, reps, _, _, _, l, L, rfl, p2, to, tc, hL, hf.1, by omega, q⟩
  | part n =>
    obtain ⟨a, _, v1, rfl, ha, p0, p1⟩ := IsT.inv2 tt
    obtain rfl := p0.of_str
    refine ⟨_, rfl, case_skip (SqT.of ha) (by decide) (case_skip (SqT.of ha) (by decide) (case_hit (SqT.of ha) rfl ⟨_, _, rfl, ?_⟩))⟩
    refine ⟨_, rfl, sz, fun p hp => ?_⟩
    have on := Oth.new (S := [l]) (o := .tup [.str "part", v1]) hp
    exact q _ _ (.mk2 upd_same (.str _) (p1.oth on)) (by simpa [keyLooks, Tp.key?] using (Oth.new (S := []) (o := .tup [.str "part", v1]) hp).keep l _ (by simp) hL) on
  | when _ _ _ => cases hn
  | each _ _ => cases hn
  | _ =>
    obtain ⟨a, r, rfl, ha⟩ := Tp.kindAt _ tt
    refine ⟨_, rfl, case_skip (SqT.of ha) (by simp only [Tp.kind]; decide) (case_skip (SqT.of ha) (by simp only [Tp.kind]; decide) (case_skip (SqT.of ha) (by simp only [Tp.kind]; decide) ⟨_, rfl, ?_⟩))⟩
    exact q _ _ to (by simpa [keyLooks, Tp.key?] using hL) Oth.refl
theorem ok_partsof {f : Addr} {fd : FuncData} {k : Nat} (F : Fun K "parts_of" "parts_of" sPartsOf f fd) (m_range : mg "range" = none) (m_tuple : mg "tuple" = none) (m_len : mg "len" = none) :
    FnOk P w K mg base CX0 (k + 1) f fd ["path"] spPartsOf := by
  refine F.ok scPartsOf (fun vs H Q E h => ?_) (fun cdv A outer s H vs Q E' hr h => ?_)
  · obtain ⟨ts, v, rfl, _⟩ := h
    rfl
  obtain ⟨ts, v, rfl, tv, hl, q⟩ := h
  have nd := scPartsOf.nd
  refine ⟨_, (pss_one (ps_ret (pe_tupleOf (by rfl) m_tuple (pe_lc (own := [("many", 1)]) (g := gName 1) (tt := tYes) rfl nd (pi_range1 (by rfl) m_range (pa_cons (pe_callB call_len_seq (by rfl) m_len PySem.boot_len (pa_cons (pv 0) pa_nil)) pa_nil)) (blkOk_by (N := ["path", "many"]) (sc := defScope sPartsOf) (by decide +kernel)) (fun _ _ _ _ _ => (pg_name (i := 1) nd rfl (.inl rfl))) (fun _ _ _ _ _ => pts_nil) (fun _ _ _ _ _ => (pe_slice (r := rSlA K) sl_tupA (pv 0) po_none (po_some (pv 1)))))))), ?_⟩
  obtain ⟨a, xs, rfl, ea, pa⟩ := tv.inv
  have lx := (paired_get pa).1
  refine ⟨_, rfl, a, xs, rfl, .inr (SqT.of ea), _, rfl, by omega, by omega, fun D hD => lc_range (lo := 0) (n := ((xs.length : Nat) : Int).toNat)
    (fun j H2 => ∃ vs : List V, H2 D = some (.lst vs) ∧ Paired (IsT H2) ((List.range j).map fun k => .tup (ts.take k)) vs ∧ Oth [D] H H2)
    ⟨[], upd_same, .nil, Oth.new hD⟩ (fun j H2 hj hW => ?_) (fun H2 hW => ?_)⟩
  · obtain ⟨vs, hD2, pv2, o2⟩ := hW
    refine ⟨rfl, ⟨_, rfl, _, rfl, ?_⟩⟩
    rw [show (0 : Int) + (j : Int) = (j : Int) from Int.zero_add _]
    refine ⟨_, rfl, ?_⟩
    refine sl_take (n := j) (o2.tup _ _ ea) fun c3 H3 o3 e3 => ?_
    have hD3 := o3.keep D _ (by simp) hD2
    have op : Oth [D] H3 (upd H3 D (.lst (vs ++ [.ref c3]))) := Oth.put (by simp) hD3
    have lv := (paired_get pv2).1
    rw [List.length_map, List.length_range] at lv
    refine ⟨vs, hD3, small1000 (by omega), vs ++ [.ref c3], upd_same, ?_, o2.trans ((o3.mono (by simp)).trans op)⟩
    rw [List.range_succ, List.map_append]
    refine paired_app (paired_oth (paired_oth pv2 o3) op) (.cons ?_ .nil)
    exact .mk (op.tup _ _ e3) (paired_oth (paired_oth (paired_oth (paired_take pa j) o2) o3) op)
  · obtain ⟨vs, hD2, pv2, o2⟩ := hW
    refine .inl ⟨D, _, rfl, SqL.of hD2, fun t ht => ?_⟩
    have on := Oth.new (S := []) (o := .tup vs) ht
    refine q _ _ (.mk upd_same ?_) ((Oth.drop o2 hD).trans on)
    rw [show ((xs.length : Nat) : Int).toNat = ts.length by omega] at pv2
    exact paired_oth pv2 on
end
section
variable {P : Program} {w : World} {K : PySem.W.Frag} {mg : Str → Option Value} {base : Heap}
theorem ok_dis {f fV fW : Addr} {fd dV dW : FuncData} {k n : Nat} {tR : Tok} (F : Fun K "_dissolved" "_dissolved" sDis f fd)
    (GDd : FnOk P w K mg base CX0 k f fd ["contents", "before", "repeats", "scope", "looked"] (spDis n)) (bDd : Binds K fd ["contents", "before", "repeats", "scope", "looked"] []) (kDd : PySem.W.keepIn K (.ref f) = true) (mDd : mg "_dissolved" = some (.ref f))
    (GV : FnOk P w K mg base CX0 k fV dV ["expression", "scope", "looked"] (spValue 4)) (bV : Binds K dV ["expression", "scope", "looked"] []) (kV : PySem.W.keepIn K (.ref fV) = true) (mV : mg "value" = some (.ref fV))
    (GDw : FnOk P w K mg base CX0 k fW dW ["template", "other", "scope", "looked"] spWished) (bDw : Binds K dW ["template", "other", "scope", "looked"] []) (kDw : PySem.W.keepIn K (.ref fW) = true) (mDw : mg "_wished" = some (.ref fW))
    (m_enumerate : mg "enumerate" = none) (m_range : mg "range" = none) (c_RE : mg "REPEATS" = some (.int 6 tR)) :
    FnOk P w K mg base CX0 (k + 1) f fd ["contents", "before", "repeats", "scope", "looked"] (spDis (n + 1)) := by
  refine F.ok scDis (fun vs H Q E h => ?_) (fun cdv A outer s H vs Q E' hr h => ?_)
  · obtain ⟨ts, c, be, re, vt, vb, vr, vc, l, L, rfl, _⟩ := h
    rfl
  obtain ⟨ts, c, be, re, vt, vb, vr, vc, l, L, rfl, tt, tb, tr, tc, hL, hd, hf, hz, hbe, hre, q⟩ := h
  have nd := scDis.nd
  refine ⟨_, (pss_cons (ps_set (i := 5) nd rfl (.inl rfl) (pe_lst pa_nil))
  (pss_cons (ps_for PassesOwn.never rfl (pi_enumT (by rfl) m_enumerate (pa_cons (pv 0) pa_nil)) (pg_tup rfl (pgs_cons (pg_name (i := 6) nd rfl (.inl rfl)) (pgs_cons (pg_name (i := 7) nd rfl (.inl rfl)) pgs_nil)))
  (pss_cons (ps_set (i := 8) nd rfl (.inl rfl) (pe_op op_catA (pv 1) (pe_tup (pa_cons (pv 6) pa_nil))))
  (pss_one (ps_match (pv 7) (pcs_cons nd (pp_seq rfl (pps_cons' pp_str (pps_cons' (pp_name 9) (pps_cons' (pp_name 10) (pps_cons' (pp_name 11) pps_nil'))))) (pss_cons (ps_set (i := 12) nd rfl (.inl rfl) (pe_cmpR op_ne (pe_call GV hr rfl mV kV bV .nil pass0 (pa_cons (pv 9) (pa_cons (pv 3) (pa_cons (pv 4) pa_nil)))) pe_int (nomark _)))
  (pss_cons (ps_set (i := 13) nd rfl (.inl rfl) (pe_op op_catA (pv 8) (pe_ifExp (pt_val (pv 12)) (pe_tup (pa_cons pe_int pa_nil)) (pe_tup (pa_cons pe_int pa_nil)))))
  (pss_one (ps_expr (pe_bm PySem.F.plainAttrs_list PySem.F.slot_list_extend PySem.F.type_list_extend mt_extend (pv 5) (pa_cons (pe_call GDd hr rfl mDd kDd bDd .nil pass0 (pa_cons (pe_ifExp (pt_val (pv 12)) (pv 10) (pv 11)) (pa_cons (pv 13) (pa_cons (pv 2) (pa_cons (pv 3) (pa_cons (pv 4) pa_nil)))))) pa_nil))))))
  (pcs_cons nd (pp_seq rfl (pps_cons' pp_str (pps_cons' (pp_name 14) (pps_cons' (pp_name 15) pps_nil')))) (pss_one (ps_for PassesOwn.never rfl (pi_range1 (by rfl) m_range (pa_cons (pe_op op_mod (pe_call GV hr rfl mV kV bV .nil pass0 (pa_cons (pv 14) (pa_cons (pv 3) (pa_cons (pv 4) pa_nil)))) (pe_glob (v := .int 6) (by rfl) c_RE ⟨_, rfl⟩)) pa_nil)) (pg_name (i := 16) nd rfl (.inl rfl))
  (pss_cons (ps_set (i := 17) nd rfl (.inl rfl) (pe_op op_catA (pe_slice sl_tupA (pv 3) po_none (po_some pe_int)) (pe_tup (pa_cons (pv 16) pa_nil))))
  (pss_one (ps_expr (pe_bm PySem.F.plainAttrs_list PySem.F.slot_list_extend PySem.F.type_list_extend mt_extend (pv 5) (pa_cons (pe_call GDd hr rfl mDd kDd bDd .nil pass0 (pa_cons (pv 15) (pa_cons (pv 8) (pa_cons (pe_op op_catA (pv 2) (pe_tup (pa_cons (pv 16) pa_nil))) (pa_cons (pv 17) (pa_cons (pv 4) pa_nil)))))) pa_nil)))))))
  (pcs_cons nd pp_any (pss_cons (ps_set (i := 18) nd rfl (.inl rfl) (pe_tup (pa_cons pe_str (pa_cons (pv 8) (pa_cons (pv 2) pa_nil)))))
  (pss_cons (ps_set (i := 19) nd rfl (.inl rfl) (pe_call GDw hr rfl mDw kDw bDw .nil pass0 (pa_cons (pv 7) (pa_cons (pv 18) (pa_cons (pv 3) (pa_cons (pv 4) pa_nil))))))
  (pss_one (ps_expr (pe_bm PySem.F.plainAttrs_list PySem.F.slot_list_append PySem.F.type_list_append mt_append (pv 5) (pa_cons (pe_tup (pa_cons (pv 19) (pa_cons (pv 18) (pa_cons (pv 7) (pa_cons (pe_ix ix_tup (pv 3) pe_int (fun _ _ => rfl)) pa_nil))))) pa_nil))))))
  pcs_nil)))))))
  (pss_one (ps_ret (pv 5))))), ?_⟩
  obtain ⟨ac, xs, rfl, ec, pc⟩ := tt.inv
  obtain ⟨ab, rfl, eb⟩ := tb.ints
  obtain ⟨ar, rfl, er⟩ := tr.ints
  obtain ⟨sc, sa, sp, ss, rfl, esc, esa, esp, ess⟩ := Sc.parts tc
  have lxs := (paired_get pc).1
  rw [Tp.toTs_map, List.length_map] at lxs
  refine ⟨sz, fun p hp => ?_⟩
  have nlp : l ≠ p := ne_of_none hL hp
  have o0 := Oth.new (S := []) (o := .lst []) hp
  refine ⟨_, rfl, ac, xs, rfl, SqT.of (o0.tup _ _ ec), for_enumT
    (fun i σ H1 => ∃ (x6 x7 x8 x9 x10 x11 x12 x13 x14 x15 x16 x17 x18 x19 : Option V) (rs : List V), σ = [some (.ref ac), some (.ref ab), some (.ref ar), some (.ref sc), some (.ref l), some (.ref p), x6, x7, x8, x9, x10, x11, x12, x13, x14, x15, x16, x17, x18, x19] ∧ Oth [l, p] H H1 ∧ H1 p = some (.lst rs) ∧ Paired (IsT H1) ((Tp.dis c be re 0 (ts.take i)).map Dr.toT) rs ∧ H1 l = some (.lst (L ++ (Tp.lks c (ts.take i)).map V.int)))
    ⟨none, none, none, none, none, none, none, none, none, none, none, none, none, none, [], rfl, o0.mono (by simp), upd_same, .nil, by rw [upd_ne nlp, hL]; simp [Tp.lks]⟩ (fun i σ H1 _ hW => ?_) (fun i x σ H1 Tt hx hW hT => ?_) (fun σ H1 hW => ?_)⟩
  · obtain ⟨_, _, _, _, _, _, _, _, _, _, _, _, _, _, _, _, o1, _, _, _⟩ := hW
    exact SqT.of (o1.tup _ _ ec)
  · obtain ⟨x6, x7, x8, x9, x10, x11, x12, x13, x14, x15, x16, x17, x18, x19, rs, rfl, o1, hp1, pr1, hl1⟩ := hW
    have hi : i < ts.length := by rw [← lxs]; exact (List.getElem?_eq_some_iff.mp hx).1
    obtain ⟨t, gt⟩ : ∃ t, ts[i]? = some t := ⟨ts[i], List.getElem?_eq_getElem hi⟩
    have ht : IsT H t.toT x := (paired_get pc).2 i _ _ (by rw [Tp.toTs_map, List.getElem?_map, gt]; rfl) hx
    have tm : t ∈ ts := List.mem_of_getElem? gt
    have wt := wts_take gt
    have dt := deps_mem tm
    have ft := fines_mem hf tm
    have lrs : rs.length ≤ Tp.wts (ts.take i) := by
      rw [(paired_get pr1).1, List.length_map]
      exact Tp.dis_len _ _ _ _ _
    have llk : (Tp.lks c (ts.take i)).length ≤ Tp.wts (ts.take i) := Tp.lks_len _ _
    have oT := Oth.new (S := []) (o := .tup [.int ((i : Nat) : Int), x]) hT
    have o2 := o1.trans (oT.mono (by simp))
    refine ⟨Tt, _, rfl, SqT.of upd_same, rfl, _, _, rfl, _, _, rfl, rfl, ?_⟩
    -- the address
    refine ⟨_, rfl, _, rfl, sz, fun r1 hr1' => cat_t ((o2.trans (Oth.new hr1')).tup _ _ eb) upd_same (by simp; omega) fun r2 H3 o3 e3 => ?_⟩
    have o13 := oT.trans ((Oth.new (S := []) (o := .tup [.int ((i : Nat) : Int)]) hr1').trans o3)
    have o03 := o1.trans (o13.mono (by simp))
    have e3' : H3 r2 = some (.tup ((be ++ [(i : Int)]).map V.int)) := by rw [e3, List.map_append]; rfl
    have hp3 := o13.keep p _ (by simp) hp1
    have hl3 := o13.keep l _ (by simp) hl1
    have pr3 := paired_oth pr1 o13
    have ht3 := ht.oth o03
    have ll3 : (L ++ (Tp.lks c (ts.take i)).map V.int).length = L.length + (Tp.lks c (ts.take i)).length := by rw [List.length_append, List.length_map]
    -- how a turn ends
    have fin : ∀ (H9 : Hp) (zs : List V) (y9 y10 y11 y12 y13 y14 y15 y16 y17 y18 y19 : Option V), Oth [l, p] H3 H9 → H9 p = some (.lst (rs ++ zs)) → Paired (IsT H9) ((t.dis1 c (be ++ [(i : Int)]) re).map Dr.toT) zs → H9 l = some (.lst (L ++ (Tp.lks c (ts.take i)).map V.int ++ (t.lk1 c).map V.int)) →
        ∃ (x6 x7 x8 x9 x10 x11 x12 x13 x14 x15 x16 x17 x18 x19 : Option V) (rs' : List V), ([some (.ref ac), some (.ref ab), some (.ref ar), some (.ref sc), some (.ref l), some (.ref p), some (.int (i : Int)), some x, some (.ref r2), y9, y10, y11, y12, y13, y14, y15, y16, y17, y18, y19] : L2.St) = [some (.ref ac), some (.ref ab), some (.ref ar), some (.ref sc), some (.ref l), some (.ref p), x6, x7, x8, x9, x10, x11, x12, x13, x14, x15, x16, x17, x18, x19] ∧ Oth [l, p] H H9 ∧ H9 p = some (.lst rs') ∧ Paired (IsT H9) ((Tp.dis c be re 0 (ts.take (i + 1))).map Dr.toT) rs' ∧ H9 l = some (.lst (L ++ (Tp.lks c (ts.take (i + 1))).map V.int)) := fun H9 zs y9 y10 y11 y12 y13 y14 y15 y16 y17 y18 y19 o9 hp9 pz9 hl9 => by
      refine ⟨_, _, _, _, _, _, _, _, _, _, _, _, _, _, rs ++ zs, rfl, o03.trans o9, hp9, ?_, ?_⟩
      · rw [dis_take gt, List.map_append]
        exact paired_app (paired_oth pr3 o9) pz9
      · rw [lks_take gt, List.map_append, ← List.append_assoc]
        exact hl9
    by_cases hn : t.node = true
    · -- a node
      obtain ⟨n1, n2⟩ := Tp.dis1_node t hn c (be ++ [(i : Int)]) re
      obtain ⟨at', rt, rfl, et⟩ := Tp.kindAt t ht3
      have nk := node_kind hn
      refine ⟨_, rfl, case_skip (SqT.of et) nk.1.symm (case_skip (SqT.of et) nk.2.symm ?_)⟩
      refine ⟨_, rfl, _, rfl, sz, fun r3 hr3 => ?_⟩
      have o4 := Oth.new (S := []) (o := .tup [.str "at", .ref r2, .ref ar]) hr3
      have oth4 : IsT (upd H3 r3 (.tup [.str "at", .ref r2, .ref ar])) (Nm.at (be ++ [(i : Int)]) re).toT (.ref r3) := .mk3 upd_same (.str _) (.mkI (o4.tup _ _ e3')) (.mkI (o4.tup _ _ (o03.tup _ _ er)))
      refine ⟨_, rfl, _, rfl, _, rfl, _, rfl, t, c, be ++ [(i : Int)], re, _, _, _, l, _, rfl, ht3.oth o4, hn, oth4, (tc.oth o03).oth o4, o4.keep l _ (by simp) hl3, ft, by rw [ll3]; omega, fun vw H5 tw l5 o5 => ?_⟩
      have o45 := (o4.mono (S' := [l]) (by simp)).trans o5
      have hp5 := o45.keep p _ (by simp [nlp.symm]) hp3
      refine ⟨_, rfl, .inl ⟨rfl, _, SqL.of hp5⟩, _, rfl, _, rfl, _, rfl, _, rfl, sc, _, _, _, rfl, rfl, SqT.of ((o03.trans (o45.mono (by simp))).tup _ _ esc), at4, sz, fun r4 hr4 => ?_⟩
      have o6 := Oth.new (S := []) (o := .tup [vw, .ref r3, .ref at', .int c.index]) hr4
      have hp6 := o6.keep p _ (by simp) hp5
      refine ⟨p, _, _, rfl, rfl, hp6, Nat.lt_of_le_of_lt (by omega : rs.length ≤ 50000) (by decide), ?_⟩
      have o7 : Oth [p] (upd H5 r4 (.tup [vw, .ref r3, .ref at', .int c.index])) (upd (upd H5 r4 (.tup [vw, .ref r3, .ref at', .int c.index])) p (.lst (rs ++ [.ref r4]))) := Oth.put (by simp) hp6
      refine fin _ [.ref r4] _ _ _ _ _ _ _ _ _ _ _ ((o45.mono (by simp)).trans ((o6.mono (by simp)).trans (o7.mono (by simp)))) upd_same ?_ ?_
      · rw [n1]
        exact .cons (.mk4 (o7.tup _ _ upd_same) ((tw.oth o6).oth o7) (((oth4.oth o5).oth o6).oth o7) ((((ht3.oth o4).oth o5).oth o6).oth o7) (.int _)) .nil
      · rw [n2]
        exact o7.keep l _ (by simp [nlp]) (o6.keep l _ (by simp) l5)
    · cases t with
      | when e cs os =>
        obtain ⟨a, _, v1, v2, v3, rfl, ha, p0, p1, p2, p3⟩ := IsT.inv4 ht3
        obtain rfl := p0.of_str
        simp only [Tp.wt] at wt
        simp only [Tp.dep] at dt
        refine ⟨_, rfl, case_hit (SqT.of ha) rfl ⟨_, _, rfl, _, _, rfl, _, _, rfl, ?_⟩⟩
        refine ⟨_, rfl, _, rfl, _, rfl, e, c, _, _, l, _, rfl, p1, tc.oth o03, hl3, by have := ft.1; omega, by rw [ll3]; omega, fun H4 l4 o4 => ⟨rfl, ?_⟩⟩
        have hp4 := o4.keep p _ (by simp [nlp.symm]) hp3
        have ll4 : (L ++ (Tp.lks c (ts.take i)).map V.int ++ (e.looks c).map V.int).length = L.length + (Tp.lks c (ts.take i)).length + (e.looks c).length := by rw [List.length_append, List.length_map, ll3]
        have le := e.looks_le c
        -- either way
        have way : ∀ (bs : List Tp) (vbs : V) (z : Int) (r5 : Addr) (H5 : Hp) (y9 y10 y11 y12 y14 y15 y16 y17 y18 y19 : Option V), IsT H3 (.tup (Tp.toTs bs)) vbs → Tp.wts bs ≤ Tp.wts cs + Tp.wts os → Tp.deps bs ≤ max (Tp.deps cs) (Tp.deps os) → Tp.Fines bs → Oth [] H4 H5 → H5 r5 = some (.tup ((be ++ [(i : Int)] ++ [z]).map V.int)) →
            (Tp.when e cs os).dis1 c (be ++ [(i : Int)]) re = Tp.dis c (be ++ [(i : Int)] ++ [z]) re 0 bs → (Tp.when e cs os).lk1 c = e.looks c ++ Tp.lks c bs →
            spDis n [vbs, .ref r5, .ref ar, .ref sc, .ref l] H5 (fun v H7 => ∃ (pz : Addr) (zs : List V), v = .ref pz ∧ H7 p = some (.lst rs) ∧ H7 pz = some (.lst zs) ∧ rs.length + zs.length ≤ 100000 ∧ ∀ (_ : True),
              Oth [l, p] H3 (upd H7 p (.lst (rs ++ zs))) ∧ Paired (IsT (upd H7 p (.lst (rs ++ zs)))) (((Tp.when e cs os).dis1 c (be ++ [(i : Int)]) re).map Dr.toT) zs ∧ (upd H7 p (.lst (rs ++ zs))) l = some (.lst (L ++ (Tp.lks c (ts.take i)).map V.int ++ ((Tp.when e cs os).lk1 c).map V.int))) E' := fun bs vbs z r5 H5 y9 y10 y11 y12 y14 y15 y16 y17 y18 y19 tbs wb db fb o5 e5 hdis hlk => by
          have o35 := o4.trans (o5.mono (by simp))
          refine ⟨bs, c, be ++ [(i : Int)] ++ [z], re, _, _, _, _, l, _, rfl, (tbs.oth o4).oth o5, .mkI e5, .mkI (o35.tup _ _ (o03.tup _ _ er)), (tc.oth o03).oth o35, o5.keep l _ (by simp) l4, by omega, fb, by rw [ll4]; omega, by simp; omega, by omega, fun pz H7 zs hpz e7 pq7 l7 o7 => ?_⟩
          have hp7 := o7.keep p _ (by simp [nlp.symm]) (o5.keep p _ (by simp) hp4)
          have lzs : zs.length ≤ Tp.wts bs := by rw [(paired_get pq7).1, List.length_map]; exact Tp.dis_len _ _ _ _ _
          have o8 : Oth [p] H7 (upd H7 p (.lst (rs ++ zs))) := Oth.put (by simp) hp7
          refine ⟨pz, zs, rfl, hp7, e7, by omega, fun _ => ⟨(o35.mono (by simp)).trans ((o7.mono (by simp)).trans (o8.mono (by simp))), ?_, ?_⟩⟩
          · rw [hdis]; exact paired_oth pq7 o8
          · rw [hlk, List.map_append, ← List.append_assoc]
            exact o8.keep l _ (by simp [nlp]) l7
        refine ⟨_, rfl, _, rfl, _, rfl, ite2 (fun c1 => ?_) (fun c1 => ?_)⟩
        · have hv : ¬ e.val c = 0 := fun z => by rw [z] at c1; simp at c1
          refine ⟨sz, fun r3 hr3 => cat_t ((o4.trans (Oth.new hr3)).tup _ _ e3') upd_same (by simp; omega) fun r5 H5 o5 e5 => ?_⟩
          have o45 := (Oth.new (S := []) (o := .tup [.int 0]) hr3).trans o5
          have hp5 := o45.keep p _ (by simp) hp4
          refine ⟨_, rfl, .inl ⟨rfl, _, SqL.of hp5⟩, _, rfl, _, rfl, iteTb c1 ⟨_, rfl, _, rfl, _, rfl, _, rfl, _, rfl, ?_⟩⟩
          obtain ⟨bs, c', be', re', _, _, _, _, l', L', hvs, h1, h2, h3, h4, h5, h6, h7, h8, h9, h10, h11⟩ := way cs v2 0 r5 H5 none none none none none none none none none none p2 (by omega) (by omega) ft.2.1 o45 (by rw [e5, ← List.map_singleton (f := V.int), ← List.map_append]) (by simp only [Tp.dis1, if_neg hv]) (by simp only [Tp.lk1, if_neg hv])
          refine ⟨bs, c', be', re', _, _, _, _, l', L', hvs, h1, h2, h3, h4, h5, h6, h7, h8, h9, h10, fun pz H7 zs' a1 a2 a3 a4 a5 => ?_⟩
          obtain ⟨pz', zs, hpz, hp7, e7, hsz, hfin⟩ := h11 pz H7 zs' a1 a2 a3 a4 a5
          cases hpz
          obtain ⟨f1, f2, f3⟩ := hfin trivial
          refine ⟨p, pz, _, _, rfl, rfl, hp7, e7, Nat.le_trans hsz (by decide), ?_⟩
          exact fin _ zs _ _ _ _ _ _ _ _ _ _ _ f1 upd_same f2 f3
        · have hv : e.val c = 0 := Decidable.byContradiction fun z => c1 (by simp [z])
          refine ⟨sz, fun r3 hr3 => cat_t ((o4.trans (Oth.new hr3)).tup _ _ e3') upd_same (by simp; omega) fun r5 H5 o5 e5 => ?_⟩
          have o45 := (Oth.new (S := []) (o := .tup [.int 1]) hr3).trans o5
          have hp5 := o45.keep p _ (by simp) hp4
          refine ⟨_, rfl, .inl ⟨rfl, _, SqL.of hp5⟩, _, rfl, _, rfl, iteFb (Bool.eq_false_iff.mpr c1) ⟨_, rfl, _, rfl, _, rfl, _, rfl, _, rfl, ?_⟩⟩
          obtain ⟨bs, c', be', re', _, _, _, _, l', L', hvs, h1, h2, h3, h4, h5, h6, h7, h8, h9, h10, h11⟩ := way os v3 1 r5 H5 none none none none none none none none none none p3 (by omega) (by omega) ft.2.2 o45 (by rw [e5, ← List.map_singleton (f := V.int), ← List.map_append]) (by simp only [Tp.dis1, if_pos hv]) (by simp only [Tp.lk1, if_pos hv])
          refine ⟨bs, c', be', re', _, _, _, _, l', L', hvs, h1, h2, h3, h4, h5, h6, h7, h8, h9, h10, fun pz H7 zs' a1 a2 a3 a4 a5 => ?_⟩
          obtain ⟨pz', zs, hpz, hp7, e7, hsz, hfin⟩ := h11 pz H7 zs' a1 a2 a3 a4 a5
          cases hpz
          obtain ⟨f1, f2, f3⟩ := hfin trivial
          refine ⟨p, pz, _, _, rfl, rfl, hp7, e7, Nat.le_trans hsz (by decide), ?_⟩
          exact fin _ zs _ _ _ _ _ _ _ _ _ _ _ f1 upd_same f2 f3
      | each e cs =>
        obtain ⟨a, _, v1, v2, rfl, ha, p0, p1, p2⟩ := IsT.inv3 ht3
        obtain rfl := p0.of_str
        simp only [Tp.wt] at wt
        simp only [Tp.dep] at dt
        refine ⟨_, rfl, case_skip (SqT.of ha) (by decide) (case_hit (SqT.of ha) rfl ⟨_, _, rfl, _, _, rfl, ?_⟩)⟩
        refine ⟨_, rfl, _, rfl, _, rfl, e, c, _, _, l, _, rfl, p1, tc.oth o03, hl3, by have := ft.1; omega, by rw [ll3]; omega, fun H4 l4 o4 => ⟨_, _, rfl, rfl, (by show (0 : Int) < 6; decide), ?_⟩⟩
        have hp4 := o4.keep p _ (by simp [nlp.symm]) hp3
        have ll4 : (L ++ (Tp.lks c (ts.take i)).map V.int ++ (e.looks c).map V.int).length = L.length + (Tp.lks c (ts.take i)).length + (e.looks c).length := by rw [List.length_append, List.length_map, ll3]
        have le := e.looks_le c
        have m6 := mod6 (e.val c)
        have o34 : Oth [l, p] H3 H4 := o4.mono (by simp)
        refine ⟨_, rfl, by omega, by omega, for_range (lo := 0) (n := (e.val c % 6).toNat)
          (fun j σ H5 => ∃ (y16 y17 : Option V) (zs : List V), σ = [some (.ref ac), some (.ref ab), some (.ref ar), some (.ref sc), some (.ref l), some (.ref p), some (.int (i : Int)), some (.ref a), some (.ref r2), x9, x10, x11, x12, x13, some v1, some v2, y16, y17, x18, x19] ∧ Oth [l, p] H3 H5 ∧ H5 p = some (.lst (rs ++ zs)) ∧
            Paired (IsT H5) (((List.range j).flatMap fun (m : Nat) => Tp.dis { c with index := (m : Int) } (be ++ [(i : Int)]) (re ++ [(m : Int)]) 0 cs).map Dr.toT) zs ∧
            H5 l = some (.lst (L ++ (Tp.lks c (ts.take i)).map V.int ++ (e.looks c).map V.int ++ ((List.range j).flatMap fun (m : Nat) => Tp.lks { c with index := (m : Int) } cs).map V.int)))
          ⟨_, _, [], rfl, o34, by rw [List.append_nil]; exact hp4, .nil, by simpa using l4⟩ (fun j σ H5 hj hW => ?_) (fun σ H5 hW => ?_)⟩
        · obtain ⟨y16, y17, zs, rfl, o5, hp5, pz5, hl5⟩ := hW
          have j5 : j ≤ 4 := by omega
          have lz1 := flat_len (f := fun m : Nat => Tp.dis { c with index := (m : Int) } (be ++ [(i : Int)]) (re ++ [(m : Int)]) 0 cs) (m := Tp.wts cs) (fun m => Tp.dis_len cs _ _ _ _) j
          have lz2 := flat_len (f := fun m : Nat => Tp.lks { c with index := (m : Int) } cs) (m := Tp.wts cs) (fun m => Tp.lks_len cs _) j
          have jm : j * Tp.wts cs ≤ 4 * Tp.wts cs := Nat.mul_le_mul_right _ j5
          have lzs : zs.length ≤ 4 * Tp.wts cs := by rw [(paired_get pz5).1, List.length_map]; omega
          rw [show (0 : Int) + (j : Int) = (j : Int) from Int.zero_add _]
          have o05 := o03.trans o5
          refine ⟨_, rfl, 4, rfl, sl_take (n := 4) (o05.tup _ _ esc) fun c6 H6 o6 e6 => ?_⟩
          refine ⟨_, rfl, sz, fun r7 hr7 => cat_t ((Oth.new (S := []) (o := .tup [.int (j : Int)]) hr7).tup _ _ e6) upd_same (by simp) fun c8 H8 o8 e8 => ?_⟩
          have o58 := o6.trans ((Oth.new (S := []) (o := .tup [.int (j : Int)]) hr7).trans o8)
          have o08 := o05.trans (o58.mono (by simp))
          have tin : IsT H8 (Sc.toT { c with index := (j : Int) }) (.ref c8) := Sc.mk' (c := { c with index := (j : Int) }) e8 (o08.tup _ _ esa) (o08.tup _ _ esp) (o08.tup _ _ ess)
          have hp8 := o58.keep p _ (by simp) hp5
          have hl8 := o58.keep l _ (by simp) hl5
          refine ⟨_, rfl, .inl ⟨rfl, _, SqL.of hp8⟩, _, rfl, _, rfl, ?_⟩
          refine ⟨_, rfl, _, rfl, sz, fun r9 hr9 => cat_t ((o08.trans (Oth.new hr9)).tup _ _ er) upd_same (by simp; omega) fun c10 H10 o10 e10 => ?_⟩
          have o810 := (Oth.new (S := []) (o := .tup [.int (j : Int)]) hr9).trans o10
          have o510 := o58.trans o810
          have o310 := o5.trans (o510.mono (by simp))
          have hp10 := o810.keep p _ (by simp) hp8
          have hl10 := o810.keep l _ (by simp) hl8
          refine ⟨_, rfl, _, rfl, cs, { c with index := (j : Int) }, be ++ [(i : Int)], re ++ [(j : Int)], _, _, _, _, l, _, rfl, p2.oth o310, .mkI (o310.tup _ _ e3'), .mkI (by rw [e10, List.map_append]; rfl), tin.oth o810, hl10, by omega, ft.2, by rw [List.length_append, List.length_map, ll4]; omega, by simp; omega, by simp; omega, fun pz H11 us hpz e11 pq11 l11 o11 => ?_⟩
          have hp11 := o11.keep p _ (by simp [nlp.symm]) hp10
          have lus : us.length ≤ Tp.wts cs := by rw [(paired_get pq11).1, List.length_map]; exact Tp.dis_len _ _ _ _ _
          refine ⟨p, pz, _, _, rfl, rfl, hp11, e11, Nat.le_trans (by rw [List.length_append]; omega : (rs ++ zs).length + us.length ≤ 100000) (by decide), ?_⟩
          have o12 : Oth [p] H11 (upd H11 p (.lst (rs ++ zs ++ us))) := Oth.put (by simp) hp11
          have o512 : Oth [l, p] H5 (upd H11 p (.lst (rs ++ zs ++ us))) := (o510.mono (by simp)).trans ((o11.mono (by simp)).trans (o12.mono (by simp)))
          refine ⟨_, _, zs ++ us, rfl, o5.trans o512, by rw [← List.append_assoc]; exact upd_same, ?_, ?_⟩
          · rw [flat_succ, List.map_append]
            exact paired_app (paired_oth pz5 o512) (paired_oth pq11 o12)
          · rw [flat_succ, List.map_append, ← List.append_assoc]
            exact o12.keep l _ (by simp [nlp]) l11
        · obtain ⟨y16, y17, zs, rfl, o5, hp5, pz5, hl5⟩ := hW
          refine fin _ zs _ _ _ _ _ _ _ _ _ _ _ o5 hp5 ?_ ?_
          · simpa only [Tp.dis1] using pz5
          · simp only [Tp.lk1, List.map_append]
            rw [← List.append_assoc]
            exact hl5
      | _ => exact absurd rfl hn
  · obtain ⟨x6, x7, x8, x9, x10, x11, x12, x13, x14, x15, x16, x17, x18, x19, rs, rfl, o1, hp1, pr1, hl1⟩ := hW
    rw [lxs, List.take_length] at pr1 hl1
    exact ⟨_, rfl, q p H1 rs hp hp1 pr1 hl1 (Oth.drop (p := p) (o1.mono (by simp)) hp)⟩
theorem ok_layout {f fD : Addr} {fd dD : FuncData} {k n : Nat} (F : Fun K "lay_out" "lay_out" sLayOut f fd)
    (GDd : FnOk P w K mg base CX0 k fD dD ["contents", "before", "repeats", "scope", "looked"] (spDis n)) (bDd : Binds K dD ["contents", "before", "repeats", "scope", "looked"] []) (kDd : PySem.W.keepIn K (.ref fD) = true) (mDd : mg "_dissolved" = some (.ref fD))
    (m_tuple : mg "tuple" = none) (hn : n ≤ 400) :
    FnOk P w K mg base CX0 (k + 1) f fd ["contents", "scope", "looked"] (spLayOut n) := by
  refine F.ok scLayOut (fun vs H Q E h => ?_) (fun cdv A outer s H vs Q E' hr h => ?_)
  · obtain ⟨ts, c, vt, vc, l, L, rfl, _⟩ := h
    rfl
  obtain ⟨ts, c, vt, vc, l, L, rfl, tt, tc, hL, hd, hf, hz, q⟩ := h
  have nd := scLayOut.nd
  have hu20 : (A.deeper (envOfC "lay_out" (defScope sLayOut) s.heap.objs.size f cdv)).units + 20 < cLine := by have := hr.un; omega
  refine ⟨_, (pss_cons (ps_set (i := 3) nd rfl (.inl rfl) (pe_lst pa_nil))
  (pss_cons (ps_set (i := 4) nd rfl (.inl rfl) pe_dnewN)
  (pss_cons (ps_for PassesOwn.never rfl (pi_list (pe_call GDd hr rfl mDd kDd bDd .nil pass0 (pa_cons (pv 0) (pa_cons (pe_tup pa_nil) (pa_cons (pe_tup pa_nil) (pa_cons (pv 1) (pa_cons (pv 2) pa_nil))))))) (pg_tup rfl (pgs_cons (pg_name (i := 5) nd rfl (.inl rfl)) (pgs_cons (pg_name (i := 6) nd rfl (.inl rfl)) (pgs_cons (pg_name (i := 7) nd rfl (.inl rfl)) (pgs_cons (pg_name (i := 8) nd rfl (.inl rfl)) pgs_nil)))))
  (pss_cons (ps_set (i := 9) nd rfl (.inl rfl) (pe_ifExp (pt_cmpR (op_inN hu20) (pv 5) (pv 4) (by rfl)) (pv 6) (pv 5)))
  (pss_cons (ps_asg pe_bl (pg_sub (pv 4) (pv 9) (set_nest hu20)))
  (pss_one (ps_expr (pe_bm PySem.F.plainAttrs_list PySem.F.slot_list_append PySem.F.type_list_append mt_append (pv 3) (pa_cons (pe_tup (pa_cons (pv 9) (pa_cons (pv 7) (pa_cons (pv 8) pa_nil)))) pa_nil)))))))
  (pss_one (ps_ret (pe_tupleOf (by rfl) m_tuple (pv 3))))))), ?_⟩
  refine ⟨sz, fun p hp => fun d H1 hd1 o1 hnd D1 => ?_⟩
  have o0 := Oth.new (S := []) (o := .lst []) hp
  have nlp : l ≠ p := ne_of_none hL hp
  have hp1 := o1.keep p _ (by simp) upd_same
  have hl1 := o1.keep l _ (by simp) (o0.keep l _ (by simp) hL)
  have npd : p ≠ d := ne_of_none (upd_same : (upd H p (.lst [])) p = _) hd1
  have nld : l ≠ d := ne_of_none (o0.keep l _ (by simp) hL) hd1
  have o01 := o0.trans o1
  refine ⟨_, rfl, sz, fun t1 ht1 => ⟨sz, fun t2 ht2 => ⟨_, rfl, _, rfl, ?_⟩⟩⟩
  have o2 := Oth.new (S := []) (o := .tup []) ht1
  have o3 := Oth.new (S := []) (o := .tup []) ht2
  have o23 := o2.trans o3
  have o03 := o01.trans o23
  refine ⟨ts, c, [], [], _, _, _, _, l, L, rfl, tt.oth o03, .mk (o3.tup _ _ upd_same) .nil, .mk upd_same .nil, tc.oth o03, o23.keep l _ (by simp) hl1, hd, hf, hz, by simp; omega, by simp; omega, fun pz H4 rs hpz e4 pq4 l4 o4 => ?_⟩
  have D3 := D1.oth o23 (by simp)
  have npz : p ≠ pz := ne_of_none (o23.keep p _ (by simp) hp1) hpz
  have ndz : d ≠ pz := D3.ne hpz
  have nlz : l ≠ pz := ne_of_none (o23.keep l _ (by simp) hl1) hpz
  have lds := Tp.dis_len ts c [] [] 0
  have lrs : rs.length = (Tp.dis c [] [] 0 ts).length := by rw [(paired_get pq4).1, List.length_map]
  generalize hds : Tp.dis c [] [] 0 ts = ds at pq4 lds lrs q
  refine ⟨pz, rfl, ⟨rs, SqL.of e4⟩, for_list (xs := rs)
    (fun i σ H5 => ∃ (x5 x6 x7 x8 x9 : Option V) (out : List V) (kvs : List (NestedKey × V)), σ = [some vt, some vc, some (.ref l), some (.ref p), some (.ref d), x5, x6, x7, x8, x9] ∧ Oth [l, p, d] H H5 ∧ H5 pz = some (.lst rs) ∧ Paired (IsT H5) (ds.map Dr.toT) rs ∧ H5 p = some (.lst out) ∧ Paired (IsT H5) ((named [] (ds.take i)).map itemT) out ∧
      DN P w H5 d kvs ∧ Takes' kvs ((named [] (ds.take i)).map (·.1)) ∧ kvs.length ≤ i ∧ H5 l = some (.lst (L ++ (Tp.lks c ts).map V.int)))
    ⟨none, none, none, none, none, [], [], rfl, (o03.mono (by simp)).trans (o4.mono (by simp)), e4, pq4, o4.keep p _ (by simp [nlp.symm]) (o23.keep p _ (by simp) hp1), .nil, D3.oth o4 (by simp [nld.symm]), fun n => by simp [valV_nil, named], Nat.zero_le _, l4⟩ (fun i σ H5 _ hW => ?_) (fun i x σ H5 hx hW => ?_) (fun σ H5 hW => ?_)⟩
  · obtain ⟨_, _, _, _, _, _, _, _, _, e5, _⟩ := hW
    exact SqL.of e5
  · obtain ⟨x5, x6, x7, x8, x9, out, kvs, rfl, o5, e5, pq5, hp5, po5, D5, tk5, lk5, hl5⟩ := hW
    have hi : i < ds.length := by rw [← lrs]; exact (List.getElem?_eq_some_iff.mp hx).1
    obtain ⟨dr, gd⟩ : ∃ dr, ds[i]? = some dr := ⟨ds[i], List.getElem?_eq_getElem hi⟩
    have td : IsT H5 dr.toT x := (paired_get pq5).2 i _ _ (by rw [List.getElem?_map, gd]; rfl) hx
    obtain ⟨ax, v1, v2, v3, v4, rfl, ex, i1, i2, i3, i4⟩ := IsT.inv4 td
    obtain ⟨b1, rfl, k1⟩ := Nm.nk_ref i1
    have lout : out.length = i := by rw [(paired_get po5).1, List.length_map, named_len, List.length_take]; omega
    refine ⟨ax, _, rfl, SqT.of ex, rfl, _, _, rfl, _, _, rfl, _, _, rfl, _, _, rfl, rfl, ?_⟩
    refine ⟨_, rfl, _, rfl, b1, d, _, kvs, rfl, rfl, k1, D5, _, rfl, ifx rfl rfl ?_⟩
    rw [tk5 dr.wish]
    obtain ⟨nn, hnn⟩ : ∃ nn, nn = if dr.wish ∈ (named [] (ds.take i)).map (·.1) then dr.other else dr.wish := ⟨_, rfl⟩
    obtain ⟨nv, hnv⟩ : ∃ nv, nv = if decide (dr.wish ∈ (named [] (ds.take i)).map (·.1)) = true then v2 else V.ref b1 := ⟨_, rfl⟩
    rw [← hnv]
    have tn : IsT H5 nn.toT nv := by
      rw [hnn, hnv]
      by_cases z : dr.wish ∈ (named [] (ds.take i)).map (·.1)
      · rw [if_pos z, if_pos (decide_eq_true z)]; exact i2
      · rw [if_neg z, if_neg (by simpa using z)]; exact i1
    obtain ⟨bn, rfl, kn⟩ := Nm.nk_ref tn
    refine ⟨_, rfl, _, rfl, d, bn, _, kvs, rfl, rfl, kn, D5, Nat.lt_of_le_of_lt (by omega : kvs.length ≤ 50000) (by decide), fun H6 o6 D6 => ?_⟩
    have hp6 := o6.keep p _ (by simp [npd]) hp5
    refine ⟨_, rfl, .inl ⟨rfl, _, SqL.of hp6⟩, _, rfl, _, rfl, _, rfl, sz, fun r hr => ?_⟩
    have o7 := Oth.new (S := []) (o := .tup [.ref bn, v3, v4]) hr
    have hp7 := o7.keep p _ (by simp) hp6
    refine ⟨p, _, _, rfl, rfl, hp7, Nat.lt_of_le_of_lt (by omega : out.length ≤ 50000) (by decide), ?_⟩
    have o8 : Oth [p] (upd H6 r (.tup [.ref bn, v3, v4])) (upd (upd H6 r (.tup [.ref bn, v3, v4])) p (.lst (out ++ [.ref r]))) := Oth.put (by simp) hp7
    have o58 : Oth [p, d] H5 (upd (upd H6 r (.tup [.ref bn, v3, v4])) p (.lst (out ++ [.ref r]))) := (o6.mono (by simp)).trans ((o7.mono (by simp)).trans (o8.mono (by simp)))
    refine ⟨_, _, _, _, _, out ++ [.ref r], _, rfl, o5.trans (o58.mono (by simp)), o58.keep pz _ (by simp [npz.symm, ndz.symm]) e5, paired_oth pq5 o58, upd_same, ?_, (D6.oth o7 (by simp)).oth o8 (by simp [npd.symm]), ?_, by have := length_putK kvs nn.toT.nk (.bl true); omega, o58.keep l _ (by simp [nlp, nld]) hl5⟩
    · rw [named_take gd, List.map_append, ← hnn]
      refine paired_app (paired_oth po5 o58) (.cons ?_ .nil)
      exact .mk3 (o8.tup _ _ upd_same) (tn.oth o58) (i3.oth o58) (i4.oth o58)
    · rw [named_take gd, List.map_append, ← hnn]
      exact tk5.put nn _
  · obtain ⟨x5, x6, x7, x8, x9, out, kvs, rfl, o5, e5, pq5, hp5, po5, D5, tk5, lk5, hl5⟩ := hW
    rw [lrs, List.take_length] at po5
    refine ⟨_, rfl, .inl ⟨p, _, rfl, SqL.of hp5, fun t ht => ?_⟩⟩
    have on := Oth.new (S := []) (o := .tup out) ht
    refine q _ _ (.mk upd_same (paired_oth po5 on)) (on.keep l _ (by simp) hl5) ?_
    have z1 : Oth [l, p, d] H H5 := o5
    refine Oth.trans ?_ (on.mono (by simp))
    refine ⟨fun a o na ha => ?_, o5.tup⟩
    refine o5.keep a o ?_ ha
    intro hm
    simp only [List.mem_cons, List.not_mem_nil, or_false] at hm na
    rcases hm with rfl | rfl | rfl
    · exact na rfl
    · rw [hp] at ha; cases ha
    · rw [o0.keep _ _ (by simp) ha] at hd1; cases hd1
end
abbrev sLawLay : Stmt := topS 25
theorem scLawLay : FnScope ["contents", "scope", "looked", "address", "repeats", "names", "rows", "k", "row", "here", "n", "inner", "name", "value_v"] ["contents", "scope", "looked", "address", "repeats", "names"] (defScope sLawLay) := ⟨rfl, rfl, rfl, by decide +kernel, rfl, by decide +kernel, by decide +kernel⟩
section
variable {P : Program} {w : World} {K : PySem.W.Frag} {mg : Str → Option Value} {base : Heap}
theorem ok_lawlay {f fV : Addr} {fd dV : FuncData} {k n : Nat} (F : Fun K "_law_lay" "_law_lay" sLawLay f fd)
    (GLl : FnOk P w K mg base CX0 k f fd ["contents", "scope", "looked", "address", "repeats", "names"] (spLawLay n)) (bLl : Binds K fd ["contents", "scope", "looked", "address", "repeats", "names"] []) (kLl : PySem.W.keepIn K (.ref f) = true) (mLl : mg "_law_lay" = some (.ref f))
    (GV : FnOk P w K mg base CX0 k fV dV ["e", "scope", "looked"] (spLawValue 4)) (bV : Binds K dV ["e", "scope", "looked"] []) (kV : PySem.W.keepIn K (.ref fV) = true) (mV : mg "_law_value" = some (.ref fV))
    (m_range : mg "range" = none) (m_len : mg "len" = none) (m_int : mg "int" = none) :
    FnOk P w K mg base CX0 (k + 1) f fd ["contents", "scope", "looked", "address", "repeats", "names"] (spLawLay (n + 1)) := by
  refine F.ok scLawLay (fun vs H Q E h => ?_) (fun cdv A outer s H vs Q E' hr h => ?_)
  · obtain ⟨ts, c, be, re, tk, vt, va, vr, s, sa, sp, ss, l, nl, L, nL, rfl, _⟩ := h
    rfl
  obtain ⟨ts, c, be, re, tk, vt, va, vr, sc, sa, sp, ss, l, nl, L, nL0, rfl, tt, ta, tr, esc, esa, esp, ess, hL, hnL, hpn, hsh, nsl, nsn, nln, hd, hf, hz, hzn, hbe, hre, q⟩ := h
  have nd := scLawLay.nd
  refine ⟨_, (pss_cons (ps_set (i := 6) nd rfl (.inl rfl) (pe_lst pa_nil))
  (pss_cons (ps_for PassesOwn.never rfl (pi_range1 (by rfl) m_range (pa_cons (pe_callB call_len_seq (by rfl) m_len PySem.boot_len (pa_cons (pv 0) pa_nil)) pa_nil)) (pg_name (i := 7) nd rfl (.inl rfl))
  (pss_cons (ps_set (i := 8) nd rfl (.inl rfl) (pe_ix ix_tup (pv 0) (pv 7) (fun _ _ => rfl)))
  (pss_cons (ps_set (i := 9) nd rfl (.inl rfl) (pe_op op_catA (pv 3) (pe_tup (pa_cons (pv 7) pa_nil))))
  (pss_one (ps_if (pt_cmpR op_eq (pe_ix ix_tup (pv 8) pe_int (fun _ _ => rfl)) pe_str (nomark _))
  (pss_one (ps_if (pt_cmpR op_ne (pe_call GV hr rfl mV kV bV .nil pass0 (pa_cons (pe_ix ix_tup (pv 8) pe_int (fun _ _ => rfl)) (pa_cons (pv 1) (pa_cons (pv 2) pa_nil)))) pe_int (nomark _))
  (pss_one (ps_set (i := 6) nd rfl (.inl rfl) (pe_op op_cat (pv 6) (pe_call GLl hr rfl mLl kLl bLl .nil pass0 (pa_cons (pe_ix ix_tup (pv 8) pe_int (fun _ _ => rfl)) (pa_cons (pv 1) (pa_cons (pv 2) (pa_cons (pe_op op_catA (pv 9) (pe_tup (pa_cons pe_int pa_nil))) (pa_cons (pv 4) (pa_cons (pv 5) pa_nil))))))))))
  (pss_one (ps_set (i := 6) nd rfl (.inl rfl) (pe_op op_cat (pv 6) (pe_call GLl hr rfl mLl kLl bLl .nil pass0 (pa_cons (pe_ix ix_tup (pv 8) pe_int (fun _ _ => rfl)) (pa_cons (pv 1) (pa_cons (pv 2) (pa_cons (pe_op op_catA (pv 9) (pe_tup (pa_cons pe_int pa_nil))) (pa_cons (pv 4) (pa_cons (pv 5) pa_nil))))))))))))
  (pss_one (ps_if (pt_cmpR op_eq (pe_ix ix_tup (pv 8) pe_int (fun _ _ => rfl)) pe_str (nomark _))
  (pss_one (ps_for PassesOwn.never rfl (pi_range1 (by rfl) m_range (pa_cons (pe_op op_mod (pe_callTy call_int1 (by rfl) m_int bo_int (pa_cons (pe_call GV hr rfl mV kV bV .nil pass0 (pa_cons (pe_ix ix_tup (pv 8) pe_int (fun _ _ => rfl)) (pa_cons (pv 1) (pa_cons (pv 2) pa_nil)))) pa_nil)) pe_int) pa_nil)) (pg_name (i := 10) nd rfl (.inl rfl))
  (pss_cons (ps_set (i := 11) nd rfl (.inl rfl) (pe_lst (pa_cons (pe_ix ix_list (pv 1) pe_int (fun _ _ => rfl)) (pa_cons (pe_ix ix_list (pv 1) pe_int (fun _ _ => rfl)) (pa_cons (pe_ix ix_list (pv 1) pe_int (fun _ _ => rfl)) (pa_cons (pv 10) pa_nil))))))
  (pss_one (ps_set (i := 6) nd rfl (.inl rfl) (pe_op op_cat (pv 6) (pe_call GLl hr rfl mLl kLl bLl .nil pass0 (pa_cons (pe_ix ix_tup (pv 8) pe_int (fun _ _ => rfl)) (pa_cons (pv 11) (pa_cons (pv 2) (pa_cons (pv 9) (pa_cons (pe_op op_catA (pv 4) (pe_tup (pa_cons (pv 10) pa_nil))) (pa_cons (pv 5) pa_nil)))))))))))))
  (pss_cons (ps_set (i := 12) nd rfl (.inl rfl) (pe_tup (pa_cons pe_str (pa_cons (pv 9) (pa_cons (pv 4) pa_nil)))))
  (pss_cut (ps_if (pt_cmpR op_eq (pe_ix ix_tup (pv 8) pe_int (fun _ _ => rfl)) pe_str (nomark _))
  (pss_one (ps_set (i := 12) nd rfl (.inl rfl) (pe_tup (pa_cons pe_str (pa_cons (pe_ix ix_tup (pv 8) pe_int (fun _ _ => rfl)) pa_nil)))))
  (pss_one (ps_if (PW.pt (pw_and (pt_cmpR op_in_seq (pe_ix ix_tup (pv 8) pe_int (fun _ _ => rfl)) (pe_lst (pa_cons pe_str (pa_cons pe_str pa_nil))) (by rfl)) (pw_and1 (pt_cmpR op_notN (pe_ix ix_tup (pv 8) pe_int (fun _ _ => rfl)) pe_non (nomark _)))))
  (pss_cons (ps_set (i := 13) nd rfl (.inl rfl) (pe_call GV hr rfl mV kV bV .nil pass0 (pa_cons (pe_ix ix_tup (pv 8) pe_int (fun _ _ => rfl)) (pa_cons (pv 1) (pa_cons (pv 2) pa_nil)))))
  (pss_one (ps_if (pt_cmpR (op_notInT (Room.units65 hr)) (pe_tup (pa_cons pe_str (pa_cons (pv 9) (pa_cons (pv 13) pa_nil)))) (pv 5) (by rfl))
  (pss_one (ps_set (i := 12) nd rfl (.inl rfl) (pe_tup (pa_cons pe_str (pa_cons (pv 9) (pa_cons (pv 13) pa_nil))))))
  pss_nil)))
  pss_nil)))
  (pss_cons (ps_expr (pe_bm PySem.F.plainAttrs_list PySem.F.slot_list_append PySem.F.type_list_append mt_append (pv 5) (pa_cons (pv 12) pa_nil)))
  (pss_one (ps_expr (pe_bm PySem.F.plainAttrs_list PySem.F.slot_list_append PySem.F.type_list_append mt_append (pv 6) (pa_cons (pe_lst (pa_cons (pv 12) (pa_cons (pv 8) (pa_cons (pe_ix ix_list (pv 1) pe_int (fun _ _ => rfl)) pa_nil)))) pa_nil))))))))))))))
  (pss_one (ps_ret (pv 6))))), ?_⟩
  obtain ⟨ac, xs, rfl, ec, pc⟩ := tt.inv
  obtain ⟨ab, rfl, eb⟩ := ta.ints
  obtain ⟨ar, rfl, er⟩ := tr.ints
  have hln : H l ≠ none := by rw [hL]; exact fun z => nomatch z
  have hnn : H nl ≠ none := by rw [hnL]; exact fun z => nomatch z
  have lxs := (paired_get pc).1
  rw [Tp.toTs_map, List.length_map] at lxs
  have lnL0 : nL0.length = tk.length := by rw [(paired_get hpn).1, List.length_map]
  refine ⟨sz, fun p hp => ?_⟩
  have o0 := Oth.new (S := [l, nl]) (o := .lst []) hp
  have npl : l ≠ p := ne_of_none hL hp
  have npn : nl ≠ p := ne_of_none hnL hp
  refine ⟨_, rfl, ac, xs, rfl, .inr (SqT.of (o0.tup _ _ ec)), _, rfl, by omega, by have := wts_len ts; omega, for_range (lo := 0) (n := ((xs.length : Nat) : Int).toNat)
    (fun i σ H1 => ∃ (x7 x8 x9 x10 x11 x12 x13 : Option V) (r : Addr), σ = [some (.ref ac), some (.ref sc), some (.ref l), some (.ref ab), some (.ref ar), some (.ref nl), some (.ref r), x7, x8, x9, x10, x11, x12, x13] ∧ LSt H l nl L tk H1 r (Tp.dis c be re 0 (ts.take i)) (Tp.lks c (ts.take i)))
    ⟨none, none, none, none, none, none, none, p, rfl, ⟨hp, o0, ⟨[], nL0, upd_same, (fun v hv => by cases hv), .nil, by rw [upd_ne npn]; exact hnL, by simpa [lawNamed, Tp.dis] using paired_oth hpn o0⟩, by rw [upd_ne npl]; simpa [Tp.lks] using hL, by simpa [lawNamed, Tp.dis] using hsh⟩⟩ (fun i σ H1 hi hW => ?_) (fun σ H1 hW => ?_)⟩
  · obtain ⟨x7, x8, x9, x10, x11, x12, x13, r, rfl, st⟩ := hW
    have hi : i < ts.length := by omega
    rw [show (0 : Int) + (i : Int) = (i : Int) from Int.zero_add _]
    obtain ⟨t, gt⟩ : ∃ t, ts[i]? = some t := ⟨ts[i], List.getElem?_eq_getElem hi⟩
    obtain ⟨x, hx⟩ : ∃ x, xs[i]? = some x := ⟨xs[i], List.getElem?_eq_getElem (by omega)⟩
    have ht : IsT H t.toT x := (paired_get pc).2 i _ _ (by rw [Tp.toTs_map, List.getElem?_map, gt]; rfl) hx
    have tm : t ∈ ts := List.mem_of_getElem? gt
    have wt := wts_take gt
    have dt := deps_mem tm
    have ft := fines_mem hf tm
    have llk : (Tp.lks c (ts.take i)).length ≤ Tp.wts (ts.take i) := Tp.lks_len _ _
    have lnm : ∀ ds : List Dr, ds.length ≤ Tp.wts ts → ∀ (H9 : Hp) (nL : List V), Paired (IsT H9) ((tk ++ (lawNamed tk ds).map (·.1)).map Nm.toT) nL → nL.length = nL0.length + ds.length := fun ds hds H9 nL pn => by
      rw [(paired_get pn).1, List.length_map, List.length_append, List.length_map, lawNamed_len, lnL0]
    have ldi : (Tp.dis c be re 0 (ts.take i)).length ≤ Tp.wts (ts.take i) := Tp.dis_len _ _ _ _ _
    refine ⟨_, rfl, _, rfl, ac, _, _, _, rfl, rfl, SqT.of (st.o.tup _ _ ec), atI_nat hx, ?_⟩
    -- the address
    refine ⟨_, rfl, _, rfl, sz, fun r1 hr1' => cat_t ((st.o.trans (Oth.new hr1')).tup _ _ eb) upd_same (by simp; omega) fun r2 H3 o3 e3 => ?_⟩
    have o13 := (Oth.new (S := []) (o := .tup [.int ((i : Nat) : Int)]) hr1').trans o3
    have st3 := st.oth o13
    have o03 := st3.o
    have e3' : H3 r2 = some (.tup ((be ++ [(i : Int)]).map V.int)) := by rw [e3, List.map_append]; rfl
    have ht3 := ht.oth o03
    have esc3 := o03.keep sc _ (by simp [nsl, nsn]) esc
    have ll3 : (L ++ (Tp.lks c (ts.take i)).map V.int).length = L.length + (Tp.lks c (ts.take i)).length := by rw [List.length_append, List.length_map]
    -- how a turn ends
    have fin : ∀ (H9 : Hp) (r' : Addr) (y10 y11 y12 y13 : Option V), LSt H l nl L tk H9 r' (Tp.dis c be re 0 (ts.take i) ++ t.dis1 c (be ++ [(i : Int)]) re) (Tp.lks c (ts.take i) ++ t.lk1 c) →
        ∃ (x7 x8 x9 x10 x11 x12 x13 : Option V) (r : Addr), ([some (.ref ac), some (.ref sc), some (.ref l), some (.ref ab), some (.ref ar), some (.ref nl), some (.ref r'), some (.int (i : Int)), some x, some (.ref r2), y10, y11, y12, y13] : L2.St) = [some (.ref ac), some (.ref sc), some (.ref l), some (.ref ab), some (.ref ar), some (.ref nl), some (.ref r), x7, x8, x9, x10, x11, x12, x13] ∧ LSt H l nl L tk H9 r (Tp.dis c be re 0 (ts.take (i + 1))) (Tp.lks c (ts.take (i + 1))) := fun H9 r' y10 y11 y12 y13 s9 => by
      refine ⟨_, _, _, _, _, _, _, r', rfl, ?_⟩
      rw [dis_take gt, lks_take gt]
      exact s9
    by_cases hn : t.node = true
    · -- a node
      obtain ⟨n1, n2⟩ := Tp.dis1_node t hn c (be ++ [(i : Int)]) re
      obtain ⟨at', rt, rfl, et⟩ := Tp.kindAt t ht3
      have nk := node_kind hn
      refine ⟨_, rfl, at', _, _, _, rfl, rfl, SqT.of et, at0, rfl, _, rfl, iteFd (by intro z; exact nk.1.symm (V.str.inj z)) ?_⟩
      refine ⟨_, rfl, at', _, _, _, rfl, rfl, SqT.of et, at0, rfl, _, rfl, iteFd (by intro z; exact nk.2.symm (V.str.inj z)) ?_⟩
      refine ⟨_, rfl, _, rfl, sz, fun r3 hr3 => ?_⟩
      have o4 := Oth.new (S := []) (o := .tup [.str "at", .ref r2, .ref ar]) hr3
      have st4 := st3.oth o4
      have e4 := o4.tup _ _ e3'
      have oth4 : IsT (upd H3 r3 (.tup [.str "at", .ref r2, .ref ar])) (Nm.at (be ++ [(i : Int)]) re).toT (.ref r3) := .mk3 upd_same (.str _) (.mkI e4) (.mkI (o4.tup _ _ (o03.tup _ _ er)))
      have et4 := o4.tup _ _ et
      obtain ⟨dr, hdr⟩ : ∃ dr : Dr, dr = ⟨t.wish c (be ++ [(i : Int)]) re, .at (be ++ [(i : Int)]) re, t, c.index⟩ := ⟨_, rfl⟩
      have lbe : (be ++ [(i : Int)]).length ≤ 1000 := by simp; omega
      refine ⟨fun σ H5 => ∃ (nv : V) (x13 : Option V), σ = [some (.ref ac), some (.ref sc), some (.ref l), some (.ref ab), some (.ref ar), some (.ref nl), some (.ref r), some (.int (i : Int)), some (.ref at'), some (.ref r2), x10, x11, some nv, x13] ∧ LSt H l nl L tk H5 r (Tp.dis c be re 0 (ts.take i)) (Tp.lks c (ts.take i) ++ t.lk1 c) ∧
          IsT H5 (lawName (tk ++ (lawNamed tk (Tp.dis c be re 0 (ts.take i))).map (·.1)) dr).toT nv ∧ (lawName (tk ++ (lawNamed tk (Tp.dis c be re 0 (ts.take i))).map (·.1)) dr).short ∧ IsT H5 t.toT (.ref at') ∧ H5 sc = some (.lst [.ref sa, .ref sp, .ref ss, .int c.index]), ?_, ?_⟩
      · -- the name
        have esc4 := o4.keep sc _ (by simp) esc3
        have plain : t.key? = none → (∀ k, t ≠ .part k) → LSt H l nl L tk (upd H3 r3 (.tup [.str "at", .ref r2, .ref ar])) r (Tp.dis c be re 0 (ts.take i)) (Tp.lks c (ts.take i) ++ t.lk1 c) ∧
            IsT (upd H3 r3 (.tup [.str "at", .ref r2, .ref ar])) (lawName (tk ++ (lawNamed tk (Tp.dis c be re 0 (ts.take i))).map (·.1)) dr).toT (.ref r3) ∧ (lawName (tk ++ (lawNamed tk (Tp.dis c be re 0 (ts.take i))).map (·.1)) dr).short ∧ IsT (upd H3 r3 (.tup [.str "at", .ref r2, .ref ar])) t.toT (.ref at') ∧ (upd H3 r3 (.tup [.str "at", .ref r2, .ref ar])) sc = some (.lst [.ref sa, .ref sp, .ref ss, .int c.index]) := fun hk hnp => by
          have hw : t.wish c (be ++ [(i : Int)]) re = .at (be ++ [(i : Int)]) re := by
            cases t with
            | part k => exact absurd rfl (hnp k)
            | _ => simp only [Tp.wish]; rw [hk]; rfl
          have hl : lawName (tk ++ (lawNamed tk (Tp.dis c be re 0 (ts.take i))).map (·.1)) dr = .at (be ++ [(i : Int)]) re := by rw [hdr]; simp only [lawName, hw]
          have hlk : t.lk1 c = [] := by rw [n2, hk]; rfl
          rw [hl, hlk, List.append_nil]
          exact ⟨st4, oth4, ⟨lbe, by omega⟩, ht3.oth o4, esc4⟩
        cases t with
        | part kp =>
          obtain ⟨a, _, v1, hv, ha, p0, p1⟩ := IsT.inv2 ht3
          cases hv
          have ha4 := o4.tup _ _ ha
          refine ⟨_, rfl, at', _, _, _, rfl, rfl, SqT.of et4, at0, rfl, _, rfl, iteTd rfl ?_⟩
          refine ⟨_, rfl, at', _, _, _, rfl, rfl, SqT.of ha4, at1, sz, fun r5 hr5 => ?_⟩
          have o5 := Oth.new (S := []) (o := .tup [.str "part", v1]) hr5
          have hl : lawName (tk ++ (lawNamed tk (Tp.dis c be re 0 (ts.take i))).map (·.1)) dr = .part kp := by rw [hdr]; rfl
          rw [hl, show (Tp.part kp).lk1 c = [] from rfl, List.append_nil]
          exact ⟨_, _, rfl, st4.oth o5, .mk2 upd_same (.str _) ((p1.oth o4).oth o5), trivial, (ht3.oth o4).oth o5, o5.keep _ _ (by simp) esc4⟩
        | when _ _ _ => cases hn
        | each _ _ => cases hn
        | box tag key act cs =>
          obtain ⟨a, _, v1, v2, v3, v4, hv, ha, p0, p1, p2, p3, p4⟩ := IsT.inv5 ht3
          cases hv
          have ha4 := o4.tup _ _ ha
          refine ⟨_, rfl, at', _, _, _, rfl, rfl, SqT.of et4, at0, rfl, _, rfl, iteFd (by simp only [Tp.kind]; decide) ?_⟩
          refine ⟨_, rfl, at', _, _, _, rfl, rfl, SqT.of et4, at0, sz, fun l0 hl0 => ⟨l0, _, rfl, .inl (SqL.of upd_same), rfl, rfl, _, rfl, iteTb (by simp only [Tp.kind]; decide) ?_⟩⟩
          have o5 := Oth.new (S := []) (o := .lst [.str "box", .str "child"]) hl0
          cases key with
          | none =>
            obtain rfl := (p2).of_non
            refine ⟨_, rfl, at', _, _, _, rfl, rfl, SqT.of (o5.tup _ _ ha4), at2, rfl, _, rfl, iteF ?_⟩
            obtain ⟨h2, h3, h4, h5, h6⟩ := plain rfl (fun k h => by cases h)
            exact ⟨_, _, rfl, h2.oth o5, h3.oth o5, h4, h5.oth o5, o5.keep _ _ (by simp) h6⟩
          | some e =>
            obtain ⟨ak, rfl⟩ : ∃ a, v2 = .ref a := by
              cases e <;> (obtain ⟨a, xs, rfl, _⟩ := IsT.inv (p2); exact ⟨a, rfl⟩)
            have o45 := o4.trans o5
            have st5 := st4.oth o5
            have o05 := st5.o
            refine ⟨_, rfl, at', _, _, _, rfl, rfl, SqT.of (o5.tup _ _ ha4), at2, rfl, _, rfl, iteT ?_⟩
            simp only [Tp.wt, ksz] at wt
            refine ⟨_, rfl, at', _, _, _, rfl, rfl, SqT.of (o5.tup _ _ ha4), at2, _, rfl, _, rfl, e, c, _, sc, sa, sp, ss, l, _, rfl, (p2).oth o45, o5.keep _ _ (by simp) esc4, o05.tup _ _ esa, o05.tup _ _ esp, o05.tup _ _ ess, nsl, st5.lk, by have := ft.1 e rfl; omega, by rw [ll3]; omega, fun H6 l6 o6 => ?_⟩
            have hlk : (Tp.box tag (some e) act cs).lk1 c = e.looks c := rfl
            have st6 := st5.look hln nln o6 l6
            rw [hlk]
            have e6 := o6.tup _ _ (o5.tup _ _ e4)
            refine ⟨_, rfl, _, rfl, sz, fun r7 hr7 => ?_⟩
            have o7 := Oth.new (S := []) (o := .tup [.str "key", .ref r2, .int (e.val c)]) hr7
            have st7 := st6.oth o7
            have tk7 : IsT (upd H6 r7 (.tup [.str "key", .ref r2, .int (e.val c)])) (Nm.key (be ++ [(i : Int)]) (e.val c)).toT (.ref r7) := .mk3 upd_same (.str _) (.mkI (o7.tup _ _ e6)) (.int _)
            obtain ⟨rs7, nL7, er7, fr7, it7, en7, pn7⟩ := st7.ex
            have shk : (Nm.key (be ++ [(i : Int)]) (e.val c)).short := lbe
            refine ⟨_, rfl, _, _, nl, nL7, tk7, rfl, SqL.of en7, pn7, Nm.eqb shk, fun u hu => ?_, _, rfl, ?_⟩
            · obtain ⟨nm, hnm, rfl⟩ := List.mem_map.mp hu
              exact Nm.eqb (st7.sh nm hnm)
            have hln2 : lawName (tk ++ (lawNamed tk (Tp.dis c be re 0 (ts.take i))).map (·.1)) dr = if Nm.key (be ++ [(i : Int)]) (e.val c) ∈ tk ++ (lawNamed tk (Tp.dis c be re 0 (ts.take i))).map (·.1) then .at (be ++ [(i : Int)]) re else .key (be ++ [(i : Int)]) (e.val c) := by rw [hdr]; rfl
            rw [hln2]
            have t7 := (((ht3.oth o4).oth o5).oth o6).oth o7
            have esc7 := o7.keep sc _ (by simp) (o6.keep sc _ (by simp [nsl]) (o5.keep sc _ (by simp) esc4))
            by_cases hm : Nm.key (be ++ [(i : Int)]) (e.val c) ∈ tk ++ (lawNamed tk (Tp.dis c be re 0 (ts.take i))).map (·.1)
            · rw [if_pos hm]
              refine iteFb (by show (!decide _) = false; rw [decide_eq_true (mem_nks.mpr hm)]; rfl) ?_
              exact ⟨_, _, rfl, st7, ((oth4.oth o5).oth o6).oth o7, ⟨lbe, by omega⟩, t7, esc7⟩
            · rw [if_neg hm]
              refine iteTb (by show (!decide _) = true; rw [decide_eq_false (fun z => hm (mem_nks.mp z))]; rfl) ?_
              refine ⟨_, rfl, _, rfl, sz, fun r8 hr8 => ?_⟩
              have o8 := Oth.new (S := []) (o := .tup [.str "key", .ref r2, .int (e.val c)]) hr8
              exact ⟨_, _, rfl, st7.oth o8, .mk3 upd_same (.str _) (.mkI (o8.tup _ _ (o7.tup _ _ e6))) (.int _), lbe, t7.oth o8, o8.keep _ _ (by simp) esc7⟩
        | child cn key props =>
          obtain ⟨a, _, v1, v2, v3, hv, ha, p0, p1, p2, p3⟩ := IsT.inv4 ht3
          cases hv
          have ha4 := o4.tup _ _ ha
          refine ⟨_, rfl, at', _, _, _, rfl, rfl, SqT.of et4, at0, rfl, _, rfl, iteFd (by simp only [Tp.kind]; decide) ?_⟩
          refine ⟨_, rfl, at', _, _, _, rfl, rfl, SqT.of et4, at0, sz, fun l0 hl0 => ⟨l0, _, rfl, .inl (SqL.of upd_same), rfl, rfl, _, rfl, iteTb (by simp only [Tp.kind]; decide) ?_⟩⟩
          have o5 := Oth.new (S := []) (o := .lst [.str "box", .str "child"]) hl0
          cases key with
          | none =>
            obtain rfl := (p2).of_non
            refine ⟨_, rfl, at', _, _, _, rfl, rfl, SqT.of (o5.tup _ _ ha4), at2, rfl, _, rfl, iteF ?_⟩
            obtain ⟨h2, h3, h4, h5, h6⟩ := plain rfl (fun k h => by cases h)
            exact ⟨_, _, rfl, h2.oth o5, h3.oth o5, h4, h5.oth o5, o5.keep _ _ (by simp) h6⟩
          | some e =>
            obtain ⟨ak, rfl⟩ : ∃ a, v2 = .ref a := by
              cases e <;> (obtain ⟨a, xs, rfl, _⟩ := IsT.inv (p2); exact ⟨a, rfl⟩)
            have o45 := o4.trans o5
            have st5 := st4.oth o5
            have o05 := st5.o
            refine ⟨_, rfl, at', _, _, _, rfl, rfl, SqT.of (o5.tup _ _ ha4), at2, rfl, _, rfl, iteT ?_⟩
            simp only [Tp.wt, ksz] at wt
            refine ⟨_, rfl, at', _, _, _, rfl, rfl, SqT.of (o5.tup _ _ ha4), at2, _, rfl, _, rfl, e, c, _, sc, sa, sp, ss, l, _, rfl, (p2).oth o45, o5.keep _ _ (by simp) esc4, o05.tup _ _ esa, o05.tup _ _ esp, o05.tup _ _ ess, nsl, st5.lk, by have := ft.1 e rfl; omega, by rw [ll3]; omega, fun H6 l6 o6 => ?_⟩
            have hlk : (Tp.child cn (some e) props).lk1 c = e.looks c := rfl
            have st6 := st5.look hln nln o6 l6
            rw [hlk]
            have e6 := o6.tup _ _ (o5.tup _ _ e4)
            refine ⟨_, rfl, _, rfl, sz, fun r7 hr7 => ?_⟩
            have o7 := Oth.new (S := []) (o := .tup [.str "key", .ref r2, .int (e.val c)]) hr7
            have st7 := st6.oth o7
            have tk7 : IsT (upd H6 r7 (.tup [.str "key", .ref r2, .int (e.val c)])) (Nm.key (be ++ [(i : Int)]) (e.val c)).toT (.ref r7) := .mk3 upd_same (.str _) (.mkI (o7.tup _ _ e6)) (.int _)
            obtain ⟨rs7, nL7, er7, fr7, it7, en7, pn7⟩ := st7.ex
            have shk : (Nm.key (be ++ [(i : Int)]) (e.val c)).short := lbe
            refine ⟨_, rfl, _, _, nl, nL7, tk7, rfl, SqL.of en7, pn7, Nm.eqb shk, fun u hu => ?_, _, rfl, ?_⟩
            · obtain ⟨nm, hnm, rfl⟩ := List.mem_map.mp hu
              exact Nm.eqb (st7.sh nm hnm)
            have hln2 : lawName (tk ++ (lawNamed tk (Tp.dis c be re 0 (ts.take i))).map (·.1)) dr = if Nm.key (be ++ [(i : Int)]) (e.val c) ∈ tk ++ (lawNamed tk (Tp.dis c be re 0 (ts.take i))).map (·.1) then .at (be ++ [(i : Int)]) re else .key (be ++ [(i : Int)]) (e.val c) := by rw [hdr]; rfl
            rw [hln2]
            have t7 := (((ht3.oth o4).oth o5).oth o6).oth o7
            have esc7 := o7.keep sc _ (by simp) (o6.keep sc _ (by simp [nsl]) (o5.keep sc _ (by simp) esc4))
            by_cases hm : Nm.key (be ++ [(i : Int)]) (e.val c) ∈ tk ++ (lawNamed tk (Tp.dis c be re 0 (ts.take i))).map (·.1)
            · rw [if_pos hm]
              refine iteFb (by show (!decide _) = false; rw [decide_eq_true (mem_nks.mpr hm)]; rfl) ?_
              exact ⟨_, _, rfl, st7, ((oth4.oth o5).oth o6).oth o7, ⟨lbe, by omega⟩, t7, esc7⟩
            · rw [if_neg hm]
              refine iteTb (by show (!decide _) = true; rw [decide_eq_false (fun z => hm (mem_nks.mp z))]; rfl) ?_
              refine ⟨_, rfl, _, rfl, sz, fun r8 hr8 => ?_⟩
              have o8 := Oth.new (S := []) (o := .tup [.str "key", .ref r2, .int (e.val c)]) hr8
              exact ⟨_, _, rfl, st7.oth o8, .mk3 upd_same (.str _) (.mkI (o8.tup _ _ (o7.tup _ _ e6))) (.int _), lbe, t7.oth o8, o8.keep _ _ (by simp) esc7⟩
        | _ =>
          refine ⟨_, rfl, at', _, _, _, rfl, rfl, SqT.of et4, at0, rfl, _, rfl, iteFd (by simp only [Tp.kind]; decide) ?_⟩
          refine ⟨_, rfl, at', _, _, _, rfl, rfl, SqT.of et4, at0, sz, fun l0 hl0 => ⟨l0, _, rfl, .inl (SqL.of upd_same), rfl, rfl, _, rfl, iteFb (by simp only [Tp.kind]; decide) (iteF ?_)⟩⟩
          have o5 := Oth.new (S := []) (o := .lst [.str "box", .str "child"]) hl0
          obtain ⟨h2, h3, h4, h5, h6⟩ := plain rfl (fun k h => by cases h)
          exact ⟨_, _, rfl, h2.oth o5, h3.oth o5, h4, h5.oth o5, o5.keep _ _ (by simp) h6⟩
      · rintro σ H5 ⟨nv, y13, rfl, st5, tn5, sh5, t5, esc5⟩
        obtain ⟨rs, nL, er, fr, it, enl, pn⟩ := st5.ex
        have lnL := lnm _ (by omega) _ _ pn
        have lrs : rs.length ≤ 50000 := by rw [it.len, lawNamed_len]; omega
        refine ⟨_, rfl, .inl ⟨rfl, _, SqL.of enl⟩, _, rfl, nl, _, _, rfl, rfl, enl, Nat.lt_of_le_of_lt (by omega : nL.length ≤ 100000) (by decide), ?_⟩
        have o6 : Oth [nl] H5 (upd H5 nl (.lst (nL ++ [nv]))) := Oth.put (by simp) enl
        have er6 := o6.keep r _ (by simp [st5.nn hnn]) er
        refine ⟨_, rfl, .inl ⟨rfl, _, SqL.of er6⟩, _, rfl, _, rfl, _, rfl, sc, _, _, _, rfl, rfl, SqL.of (o6.keep sc _ (by simp [nsn]) esc5), at3, sz, fun r7 hr7 => ?_⟩
        have o7 := Oth.new (S := []) (o := .lst [nv, .ref at', .int c.index]) hr7
        refine ⟨r, _, _, rfl, rfl, o7.keep _ _ (by simp) er6, Nat.lt_of_le_of_lt lrs (by decide), ?_⟩
        refine fin _ r _ _ _ _ ?_
        rw [n1, ← hdr]
        have hdt : dr.tp = t := by rw [hdr]
        have hdi : dr.idx = c.index := by rw [hdr]
        have := st5.one hln hnn nln er fr it enl pn tn5 (by rw [hdt]; exact t5) sh5 (q := r7) hr7
        rw [hdi] at this
        exact this
    · cases t with
      | when e cs os =>
        obtain ⟨a, _, v1, v2, v3, rfl, ha, p0, p1, p2, p3⟩ := IsT.inv4 ht3
        obtain rfl := p0.of_str
        simp only [Tp.wt] at wt
        simp only [Tp.dep] at dt
        refine ⟨_, rfl, a, _, _, _, rfl, rfl, SqT.of ha, at0, rfl, _, rfl, iteTd rfl ?_⟩
        refine ⟨_, rfl, a, _, _, _, rfl, rfl, SqT.of ha, at1, _, rfl, _, rfl, e, c, _, sc, sa, sp, ss, l, _, rfl, p1, esc3, o03.tup _ _ esa, o03.tup _ _ esp, o03.tup _ _ ess, nsl, st3.lk, by have := ft.1; omega, by rw [ll3]; omega, fun H4 l4 o4 => ?_⟩
        have le := e.looks_le c
        have st4 := st3.look hln nln o4 l4
        have lk4 : (Tp.lks c (ts.take i) ++ e.looks c).length = (Tp.lks c (ts.take i)).length + (e.looks c).length := List.length_append
        have o04 := st4.o
        have esc4 := o04.keep sc _ (by simp [nsl, nsn]) esc
        refine ⟨rfl, _, rfl, ite2 (fun c1 => ?_) (fun c1 => ?_)⟩
        · have hv : ¬ e.val c = 0 := fun z => by rw [z] at c1; simp at c1
          refine ⟨_, rfl, _, rfl, a, _, _, _, rfl, rfl, SqT.of (o4.tup _ _ ha), at2, _, rfl, _, rfl, _, rfl, sz, fun r5 hr5 => cat_t ((o4.trans (Oth.new hr5)).tup _ _ e3') upd_same (by simp; omega) fun r6 H6 o6 e6 => ⟨_, rfl, _, rfl, ?_⟩⟩
          have o46 := (Oth.new (S := []) (o := .tup [.int 0]) hr5).trans o6
          have st6 := st4.oth o46
          have o06 := st6.o
          refine lay_sub st6 hln hnn nln (E := E') (c := c) (be := be ++ [(i : Int)] ++ [0]) (re := re) ((p2.oth o4).oth o46) (.mkI (by rw [e6, ← List.map_singleton (f := V.int), ← List.map_append])) (.mkI (o06.tup _ _ er)) (o46.keep _ _ (by simp) esc4) (o06.tup _ _ esa) (o06.tup _ _ esp) (o06.tup _ _ ess) nsl nsn (by omega) ft.2.1 (by rw [lk4]; omega) (by omega) (by simp; omega) (by omega) fun p9 H9 s9 o9 => fin H9 p9 _ _ _ _ ?_
          simp only [Tp.dis1, if_neg hv, Tp.lk1]
          rw [List.append_assoc (Tp.lks c (ts.take i)) (e.looks c)] at s9
          exact s9
        · have hv : e.val c = 0 := Decidable.byContradiction fun z => c1 (by simp [z])
          refine ⟨_, rfl, _, rfl, a, _, _, _, rfl, rfl, SqT.of (o4.tup _ _ ha), at3, _, rfl, _, rfl, _, rfl, sz, fun r5 hr5 => cat_t ((o4.trans (Oth.new hr5)).tup _ _ e3') upd_same (by simp; omega) fun r6 H6 o6 e6 => ⟨_, rfl, _, rfl, ?_⟩⟩
          have o46 := (Oth.new (S := []) (o := .tup [.int 1]) hr5).trans o6
          have st6 := st4.oth o46
          have o06 := st6.o
          refine lay_sub st6 hln hnn nln (E := E') (c := c) (be := be ++ [(i : Int)] ++ [1]) (re := re) ((p3.oth o4).oth o46) (.mkI (by rw [e6, ← List.map_singleton (f := V.int), ← List.map_append])) (.mkI (o06.tup _ _ er)) (o46.keep _ _ (by simp) esc4) (o06.tup _ _ esa) (o06.tup _ _ esp) (o06.tup _ _ ess) nsl nsn (by omega) ft.2.2 (by rw [lk4]; omega) (by omega) (by simp; omega) (by omega) fun p9 H9 s9 o9 => fin H9 p9 _ _ _ _ ?_
          simp only [Tp.dis1, if_pos hv, Tp.lk1]
          rw [List.append_assoc (Tp.lks c (ts.take i)) (e.looks c)] at s9
          exact s9
      | each e cs =>
        obtain ⟨a, _, v1, v2, rfl, ha, p0, p1, p2⟩ := IsT.inv3 ht3
        obtain rfl := p0.of_str
        simp only [Tp.wt] at wt
        simp only [Tp.dep] at dt
        refine ⟨_, rfl, a, _, _, _, rfl, rfl, SqT.of ha, at0, rfl, _, rfl, iteFd (by intro z; exact absurd (V.str.inj z) (by decide)) ?_⟩
        refine ⟨_, rfl, a, _, _, _, rfl, rfl, SqT.of ha, at0, rfl, _, rfl, iteTd rfl ?_⟩
        refine ⟨_, rfl, a, _, _, _, rfl, rfl, SqT.of ha, at1, _, rfl, _, rfl, e, c, _, sc, sa, sp, ss, l, _, rfl, p1, esc3, o03.tup _ _ esa, o03.tup _ _ esp, o03.tup _ _ ess, nsl, st3.lk, by have := ft.1; omega, by rw [ll3]; omega, fun H4 l4 o4 => ?_⟩
        have le := e.looks_le c
        have st4 := st3.look hln nln o4 l4
        have m6 := mod6 (e.val c)
        have oo4 : Oth [l, nl] H3 H4 := o4.mono (by simp)
        refine .inl ⟨_, rfl, _, _, rfl, rfl, (by show (0 : Int) < 6; decide), _, rfl, by omega, by omega, for_range (lo := 0) (n := (e.val c % 6).toNat)
          (fun j σ H5 => ∃ (y10 y11 : Option V) (r' : Addr), σ = [some (.ref ac), some (.ref sc), some (.ref l), some (.ref ab), some (.ref ar), some (.ref nl), some (.ref r'), some (.int (i : Int)), some (.ref a), some (.ref r2), y10, y11, x12, x13] ∧ Oth [l, nl] H3 H5 ∧
            LSt H l nl L tk H5 r' (Tp.dis c be re 0 (ts.take i) ++ ((List.range j).flatMap fun (m : Nat) => Tp.dis { c with index := (m : Int) } (be ++ [(i : Int)]) (re ++ [(m : Int)]) 0 cs)) (Tp.lks c (ts.take i) ++ e.looks c ++ ((List.range j).flatMap fun (m : Nat) => Tp.lks { c with index := (m : Int) } cs)))
          ⟨_, _, r, rfl, oo4, by simpa using st4⟩ (fun j σ H5 hj hW => ?_) (fun σ H5 hW => ?_)⟩
        · obtain ⟨y10, y11, r', rfl, o5, st5⟩ := hW
          rw [show (0 : Int) + (j : Int) = (j : Int) from Int.zero_add _]
          have j5 : j ≤ 4 := by omega
          have lz1 := flat_len (f := fun m : Nat => Tp.dis { c with index := (m : Int) } (be ++ [(i : Int)]) (re ++ [(m : Int)]) 0 cs) (m := Tp.wts cs) (fun m => Tp.dis_len cs _ _ _ _) j
          have lz2 := flat_len (f := fun m : Nat => Tp.lks { c with index := (m : Int) } cs) (m := Tp.wts cs) (fun m => Tp.lks_len cs _) j
          have jm : j * Tp.wts cs ≤ 4 * Tp.wts cs := Nat.mul_le_mul_right _ j5
          have o05 := st5.o
          have esc5 := o05.keep sc _ (by simp [nsl, nsn]) esc
          refine ⟨_, rfl, sc, _, _, _, rfl, rfl, SqL.of esc5, at0, _, rfl, sc, _, _, _, rfl, rfl, SqL.of esc5, at1, _, rfl, sc, _, _, _, rfl, rfl, SqL.of esc5, at2, _, rfl, sz, fun r6 hr6 => ?_⟩
          have o6 := Oth.new (S := []) (o := .lst [.ref sa, .ref sp, .ref ss, .int (j : Int)]) hr6
          have st6 := st5.oth o6
          have n6l : r6 ≠ l := (ne_of_none st5.lk hr6).symm
          have n6n : r6 ≠ nl := by
            obtain ⟨_, _, _, _, _, e, _⟩ := st5.ex
            exact (ne_of_none e hr6).symm
          refine ⟨_, rfl, _, rfl, a, _, _, _, rfl, rfl, SqT.of (o6.tup _ _ (o5.tup _ _ ha)), at2, _, rfl, _, rfl, _, rfl, _, rfl, _, rfl, sz, fun r7 hr7 => cat_t ((st6.o.trans (Oth.new hr7)).tup _ _ er) upd_same (by simp; omega) fun r8 H8 o8 e8 => ⟨_, rfl, ?_⟩⟩
          have o68 := (Oth.new (S := []) (o := .tup [.int (j : Int)]) hr7).trans o8
          have st8 := st6.oth o68
          have o08 := st8.o
          have o58 := o6.trans o68
          have o38 := o5.trans (o58.mono (by simp))
          refine lay_sub st8 hln hnn nln (E := E') (c := { c with index := (j : Int) }) (be := be ++ [(i : Int)]) (re := re ++ [(j : Int)]) (((p2.oth o5).oth o6).oth o68) (.mkI (o38.tup _ _ e3')) (.mkI (by rw [e8, List.map_append]; rfl)) (o68.keep _ _ (by simp) upd_same) (o08.tup _ _ esa) (o08.tup _ _ esp) (o08.tup _ _ ess) n6l n6n (by omega) ft.2 (by simp only [List.length_append]; omega) (by simp only [List.length_append]; omega) (by simp; omega) (by simp; omega) fun p9 H9 s9 o9 => ?_
          refine ⟨_, _, p9, rfl, o38.trans o9, ?_⟩
          rw [flat_succ, flat_succ, ← List.append_assoc, ← List.append_assoc (bs := List.flatMap _ _)]
          exact s9
        · obtain ⟨y10, y11, r', rfl, o5, st5⟩ := hW
          refine fin H5 r' _ _ _ _ ?_
          simp only [Tp.dis1, Tp.lk1]
          rw [List.append_assoc] at st5
          exact st5
      | _ => exact absurd rfl hn
  · obtain ⟨x7, x8, x9, x10, x11, x12, x13, r, rfl, st⟩ := hW
    rw [show ((xs.length : Nat) : Int).toNat = ts.length by omega, List.take_length] at st
    obtain ⟨rs, nL, e1, fr, it, e2, pn⟩ := st.ex
    exact ⟨_, rfl, q r H1 rs nL st.rn e1 fr it st.lk e2 pn (fun n hn => st.sh n (List.mem_append_right _ hn)) st.o⟩
end
abbrev sLaw : Stmt := topS 26
theorem scLaw : FnScope ["script", "box", "program", "component", "rows", "k", "index", "looked", "due", "expected", "told", "names", "path", "j", "item"] ["script"] (defScope sLaw) := ⟨rfl, rfl, rfl, by decide +kernel, rfl, by decide +kernel, by decide +kernel⟩
section
variable {P : Program} {w : World} {K : PySem.W.Frag} {mg : Str → Option Value} {base : Heap}
theorem ok_law {f fB fP fR fL fO fS fQ : Addr} {fd dB dP dR dL dO dS dQ : FuncData} {k : Nat} (F : Fun K "law" "law" sLaw f fd)
    (GB : FnOk P w K mg base CX0 k fB dB ["script", "first", "last"] (spBoxY K)) (bB : Binds K dB ["script", "first", "last"] []) (kB : PySem.W.keepIn K (.ref fB) = true) (mB : mg "_law_box" = some (.ref fB))
    (GP : FnOk P w K mg base CX0 k fP dP ["box"] spProgramY) (bP : Binds K dP ["box"] []) (kP : PySem.W.keepIn K (.ref fP) = true) (mP : mg "_law_program" = some (.ref fP))
    (GR : FnOk P w K mg base CX0 k fR dR ["box", "many"] spDrawY) (bR : Binds K dR ["box", "many"] []) (kR : PySem.W.keepIn K (.ref fR) = true) (mR : mg "_law_draw" = some (.ref fR))
    (GLl : FnOk P w K mg base CX0 k fL dL ["contents", "scope", "looked", "address", "repeats", "names"] (spLawLay 4)) (bLl : Binds K dL ["contents", "scope", "looked", "address", "repeats", "names"] []) (kLl : PySem.W.keepIn K (.ref fL) = true) (mLl : mg "_law_lay" = some (.ref fL))
    (GDo : FnOk P w K mg base CX0 k fO dO ["contents", "scope", "looked"] (spLayOut 4)) (bDo : Binds K dO ["contents", "scope", "looked"] []) (kDo : PySem.W.keepIn K (.ref fO) = true) (mDo : mg "lay_out" = some (.ref fO))
    (GS : FnOk P w K mg base CX0 k fS dS ["actual", "expected"] (spSame 16)) (bS : Binds K dS ["actual", "expected"] []) (kS : PySem.W.keepIn K (.ref fS) = true) (mS : mg "_law_same" = some (.ref fS))
    (GDp : FnOk P w K mg base CX0 k fQ dQ ["path"] spPartsOf) (bDp : Binds K dQ ["path"] []) (kDp : PySem.W.keepIn K (.ref fQ) = true) (mDp : mg "parts_of" = some (.ref fQ))
    (m_tuple : mg "tuple" = none) (m_range : mg "range" = none) (m_len : mg "len" = none) : FnOk P w K mg base CX0 (k + 1) f fd ["script"] (spLawY K) := by
  refine F.ok scLaw (fun vs H Q E h => ?_) (fun cdv A outer s H vs Q E' hr h => ?_)
  · obtain ⟨a, ns, rfl, _⟩ := h
    rfl
  obtain ⟨a, ns, rfl, hS, h63, q⟩ := h
  have nd := scLaw.nd
  refine ⟨_, (pss_cons (ps_set (i := 1) nd rfl (.inr rfl) (pe_call GB hr rfl mB kB bB .nil pass0 (pa_cons (pv 0) (pa_cons pe_int (pa_cons pe_int pa_nil)))))
  (pss_cons (ps_set (i := 2) nd rfl (.inl rfl) (pe_call GP hr rfl mP kP bP .nil pass0 (pa_cons (pv 1) pa_nil)))
  (pss_cons (ps_for PassesOwn.never rfl (pi_tup (pe_ix ix_tup (pv 2) pe_int (fun _ _ => rfl))) (pg_name (i := 3) nd rfl (.inl rfl))
  (pss_cons (ps_set (i := 4) nd rfl (.inl rfl) (pe_lst pa_nil))
  (pss_cons (ps_for PassesOwn.never rfl (pi_range1 (by rfl) m_range (pa_cons pe_int pa_nil)) (pg_name (i := 5) nd rfl (.inl rfl))
  (pss_one (ps_expr (pe_bm PySem.F.plainAttrs_list PySem.F.slot_list_append PySem.F.type_list_append mt_append (pv 4) (pa_cons (pe_tupleOf (by rfl) m_tuple (pe_lc (own := [("j", 13)]) (g := gName 13) (tt := tYes) rfl nd (pi_range1 (by rfl) m_range (pa_cons (pe_call GR hr rfl mR kR bR .nil pass0 (pa_cons (pv 1) (pa_cons pe_int pa_nil))) pa_nil)) (blkOk_by (N := ["script", "box", "program", "component", "rows", "k", "index", "looked", "due", "expected", "told", "names", "path", "j", "item"]) (sc := defScope sLaw) (by decide +kernel)) (fun _ _ _ _ _ => (pg_name (i := 13) nd rfl (.inl rfl))) (fun _ _ _ _ _ => pts_nil) (fun _ _ _ _ _ => (pe_call GR hr rfl mR kR bR .nil pass0 (pa_cons (pv 1) (pa_cons pe_int pa_nil)))))) pa_nil)))))
  (pss_cons (ps_set (i := 6) nd rfl (.inl rfl) (pe_call GR hr rfl mR kR bR .nil pass0 (pa_cons (pv 1) (pa_cons pe_int pa_nil))))
  (pss_cons (ps_set (i := 7) nd rfl (.inl rfl) (pe_lst pa_nil))
  (pss_cons (ps_set (i := 8) nd rfl (.inl rfl) (pe_lst pa_nil))
  (pss_cons (ps_set (i := 9) nd rfl (.inl rfl) (pe_call GLl hr rfl mLl kLl bLl .nil pass0 (pa_cons (pe_ix ix_tup (pv 3) pe_int (fun _ _ => rfl)) (pa_cons (pe_lst (pa_cons (pe_ix ix_list (pv 4) pe_int (fun _ _ => rfl)) (pa_cons (pe_ix ix_list (pv 4) pe_int (fun _ _ => rfl)) (pa_cons (pe_ix ix_list (pv 4) pe_int (fun _ _ => rfl)) (pa_cons (pv 6) pa_nil))))) (pa_cons (pv 8) (pa_cons (pe_tup pa_nil) (pa_cons (pe_tup pa_nil) (pa_cons (pe_lst pa_nil) pa_nil))))))))
  (pss_cons (ps_set (i := 10) nd rfl (.inl rfl) (pe_call GDo hr rfl mDo kDo bDo .nil pass0 (pa_cons (pe_ix ix_tup (pv 3) pe_int (fun _ _ => rfl)) (pa_cons (pe_tup (pa_cons pe_str (pa_cons (pe_ix ix_list (pv 4) pe_int (fun _ _ => rfl)) (pa_cons (pe_ix ix_list (pv 4) pe_int (fun _ _ => rfl)) (pa_cons (pe_ix ix_list (pv 4) pe_int (fun _ _ => rfl)) (pa_cons (pv 6) pa_nil)))))) (pa_cons (pv 7) pa_nil)))))
  (pss_cons (ps_if (PW.pt (pw_or (pt_not (pt_val (pe_call GS hr rfl mS kS bS .nil pass0 (pa_cons (pv 10) (pa_cons (pe_tupleOf (by rfl) m_tuple (pe_lc (own := [("item", 14)]) (g := gName 14) (tt := tYes) rfl nd (pi_list (pv 9)) (blkOk_by (N := ["script", "box", "program", "component", "rows", "k", "index", "looked", "due", "expected", "told", "names", "path", "j", "item"]) (sc := defScope sLaw) (by decide +kernel)) (fun _ _ _ _ _ => (pg_name (i := 14) nd rfl (.inl rfl))) (fun _ _ _ _ _ => pts_nil) (fun _ _ _ _ _ => (pe_tup (pa_cons (pe_ix (r := rIxL K) ix_list (pv 14) pe_int (fun _ _ => rfl)) (pa_cons (pe_ix (r := rIxL K) ix_list (pv 14) pe_int (fun _ _ => rfl)) (pa_cons (pe_ix (r := rIxL K) ix_list (pv 14) pe_int (fun _ _ => rfl)) pa_nil))))))) pa_nil))))) (pw_or1 (pt_cmpR (op_neD (Room.units hr)) (pv 7) (pv 8) (nomark _)))))
  (pss_one (ps_ret pe_bl))
  pss_nil)
  (pss_cons (ps_setLc (i := 11) (own := [("item", 14)]) (g := gName 14) (tt := tYes) rfl nd rfl rfl (sw_true rfl rfl rfl (by decide +kernel)) (pi_list (pv 9)) (blkOk_by (N := ["script", "box", "program", "component", "rows", "k", "index", "looked", "due", "expected", "told", "names", "path", "j", "item"]) (sc := defScope sLaw) (by decide +kernel)) (fun _ _ _ _ _ => (pg_name (i := 14) nd rfl (.inl rfl))) (fun _ _ _ _ _ => pts_nil) (fun _ _ _ _ _ => (pe_ix (r := rIxL K) ix_list (pv 14) pe_int (fun _ _ => rfl))))
  (pss_cons (ps_for PassesOwn.never rfl (pi_range1 (by rfl) m_range (pa_cons (pe_callB call_len_seq (by rfl) m_len PySem.boot_len (pa_cons (pv 11) pa_nil)) pa_nil)) (pg_name (i := 5) nd rfl (.inl rfl))
  (pss_one (ps_if (pt_cmpR (op_inT (Room.units65 hr)) (pe_ix ix_list (pv 11) (pv 5) (fun _ _ => rfl)) (pe_slice sl_list (pv 11) po_none (po_some (pv 5))) (by rfl))
  (pss_one (ps_ret pe_bl))
  pss_nil)))
  (pss_cons (ps_set (i := 12) nd rfl (.inr rfl) (pe_tupleOf (by rfl) m_tuple (pe_slice sl_list (pv 11) po_none (po_some pe_int))))
  (pss_one (ps_if (pt_not (pt_val (pe_call GS hr rfl mS kS bS .nil pass0 (pa_cons (pe_call GDp hr rfl mDp kDp bDp .nil pass0 (pa_cons (pv 12) pa_nil)) (pa_cons (pe_tupleOf (by rfl) m_tuple (pe_lc (own := [("k", 5)]) (g := gName 5) (tt := tYes) rfl nd (pi_range1 (by rfl) m_range (pa_cons (pe_callB call_len_seq (by rfl) m_len PySem.boot_len (pa_cons (pv 12) pa_nil)) pa_nil)) (blkOk_by (N := ["script", "box", "program", "component", "rows", "k", "index", "looked", "due", "expected", "told", "names", "path", "j", "item"]) (sc := defScope sLaw) (by decide +kernel)) (fun _ _ _ _ _ => (pg_name (i := 5) nd rfl (.inl rfl))) (fun _ _ _ _ _ => pts_nil) (fun _ _ _ _ _ => (pe_slice (r := rSlA K) sl_tupA (pv 12) po_none (po_some (pv 5)))))) pa_nil)))))
  (pss_one (ps_ret pe_bl))
  pss_nil))))))))))))))
  (pss_one (ps_ret pe_bl))))), ?_⟩
  refine ⟨_, rfl, a, ns, 0, 63, rfl, hS, by omega, by omega, fun b d pl H1 hb o1 bx => ?_⟩
  refine ⟨_, rfl, _, b, d, pl, rfl, bx, fun g v pl2 z2 H2 gok tv bx2 o2 => ?_⟩
  obtain ⟨pa, pc, ps', pq, cs, rfl, epa, epc, ppc, eps, epq⟩ := Pq.inv tv
  have lcs : cs.length = g.comps.length := by rw [(paired_get ppc).1, List.length_map]
  refine ⟨_, rfl, pa, _, _, _, rfl, rfl, SqT.of epa, at1, pc, rfl, ⟨cs, SqT.of epc⟩, for_tup (xs := cs)
    (fun i σ H3 => ∃ (x3 x4 x5 x6 x7 x8 x9 x10 x11 x12 x13 x14 : Option V), σ = [some (.ref a), some (.ref b), some (.ref pa), x3, x4, x5, x6, x7, x8, x9, x10, x11, x12, x13, x14] ∧ By H3 b d pl2 z2 ∧ Oth [b] H2 H3)
    ⟨none, none, none, none, none, none, none, none, none, none, none, none, rfl, bx2, Oth.refl⟩ (fun i σ H3 _ hW => ?_) (fun i y σ H3 hy hW => ?_) (fun σ H3 hW => ?_)⟩
  · obtain ⟨_, _, _, _, _, _, _, _, _, _, _, _, _, _, o3⟩ := hW
    exact SqT.of (o3.tup _ _ epc)
  · obtain ⟨x3, x4, x5, x6, x7, x8, x9, x10, x11, x12, x13, x14, rfl, bx3, o3⟩ := hW
    obtain ⟨cq, gc⟩ : ∃ cq, g.comps[i]? = some cq := ⟨g.comps[i]'(by have := (List.getElem?_eq_some_iff.mp hy).1; omega), List.getElem?_eq_getElem _⟩
    have ty : IsT H2 cq.toT y := (paired_get ppc).2 i _ _ (by rw [List.getElem?_map, gc]; rfl) hy
    have cok := gok.comps i cq gc
    obtain ⟨ai, ax, vc, va, rfl, eai, eax, tvc, tva⟩ := Cq.inv (ty.oth o3)
    have fines := Tp.Oks.fine _ cok.oks
    have wts : Tp.wts cq.cs ≤ 400 := by
      have := Tp.wts_le _ cok.oks cok.echs
      have := cok.cnts
      omega
    have dps := cok.deps
    -- the drawn rows
    refine ⟨sz, fun p hp => ?_⟩
    have nbp := bx3.nb hp
    have npp := bx3.npn hp
    have ndp := bx3.ndn hp
    refine ⟨_, rfl, by omega, by omega, for_range (lo := 0) (n := 3)
      (fun j σ H4 => ∃ (x5 : Option V) (us : List (List Nat)) (vs : List V), σ = [some (.ref a), some (.ref b), some (.ref pa), some (.ref ai), some (.ref p), x5, x6, x7, x8, x9, x10, x11, x12, x13, x14] ∧ By H4 b d pl2 z2 ∧ H4 p = some (.lst vs) ∧ Paired (IsT H4) (us.map natsT) vs ∧ us.length = j ∧ Oth [b, p] H3 H4)
      ⟨x5, [], [], rfl, bx3.new hp, upd_same, .nil, rfl, Oth.new hp⟩ (fun j σ H4 hj hW => ?_) (fun σ H4 hW => ?_)⟩
    · obtain ⟨x5, us, vs, rfl, bx4, hp4, pv4, lu, o4⟩ := hW
      have lv : vs.length = j := by rw [(paired_get pv4).1, List.length_map]; exact lu
      refine ⟨_, rfl, .inl ⟨rfl, _, SqL.of hp4⟩, _, rfl, _, b, d, pl2, _, rfl, by decide, bx4, fun n9 H9 l9 u9 bx9 o9 => ⟨n9, rfl, by omega, by omega, fun D1 hD1 => lc_range (lo := 0) (n := n9.toNat)
        (fun j H2 => By H2 b d pl2 z2 ∧ ∃ vs : List Nat, H2 D1 = some (.lst (vs.map natV)) ∧ vs.length = j ∧ Oth [b, D1] H9 H2)
        ⟨bx9.new hD1, [], upd_same, rfl, Oth.new hD1⟩ (fun j H2 hj hW => ?_) (fun H10 hW => ?_)⟩⟩
      · obtain ⟨bx2, vs, hD2, lv, o2⟩ := hW
        have nbD1 : b ≠ D1 := bx9.nb hD1
        refine ⟨rfl, ⟨_, rfl, _, b, d, pl2, _, rfl, by decide, bx2, fun r H3 l3 u3 bx3 o3 => ?_⟩⟩
        have hD3 := o3.keep D1 _ (by simp [nbD1.symm]) hD2
        try dsimp only
        rw [natV_toNat l3]
        have op : Oth [D1] H3 (upd H3 D1 (.lst (vs.map natV ++ [natV r.toNat]))) := Oth.put (by simp) hD3
        exact ⟨_, hD3, small1000 (by rw [List.length_map]; omega), bx3.oth op (by simp [nbD1]) (by simp [bx9.ndn hD1]) (by simp [bx9.npn hD1]), vs ++ [r.toNat], by rw [List.map_append]; exact upd_same, by rw [List.length_append, lv]; rfl, o2.trans ((o3.mono (by simp)).trans (op.mono (by simp)))⟩
      obtain ⟨bx10, cvn, hD10, lcv, o10⟩ := hW
      have o10' := Oth.drop2 o10 hD1
      have o4_10 := o9.trans o10'
      refine .inl ⟨D1, _, rfl, SqL.of hD10, fun t ht => ?_⟩
      have ot := Oth.new (S := [b]) (o := .tup (cvn.map natV)) ht
      have o4_11 := o4_10.trans ot
      have hp11 := o4_11.keep p _ (by simp [nbp.symm]) hp4
      have op : Oth [p] (upd H10 t (.tup (cvn.map natV))) (upd (upd H10 t (.tup (cvn.map natV))) p (.lst (vs ++ [.ref t]))) := Oth.put (by simp) hp11
      refine ⟨p, _, _, rfl, rfl, hp11, small1000 (by omega), ?_⟩
      refine ⟨_, us ++ [cvn], vs ++ [.ref t], rfl, (bx10.new ht).oth op (by simp [nbp]) (by simp [ndp]) (by simp [npp]), upd_same, ?_, by simp [lu], o4.trans ((o4_11.mono (by simp)).trans (op.mono (by simp)))⟩
      rw [List.map_append]
      exact paired_app (paired_oth (paired_oth pv4 o4_11) op) (.cons (mkNats (op.tup _ _ upd_same)) .nil)
    obtain ⟨x5, us, vs, rfl, bx4, hp4, pv4, lu, o4⟩ := hW
    obtain ⟨u0, u1, u2, rfl⟩ : ∃ u0 u1 u2, us = [u0, u1, u2] := by
      match us, lu with
      | [u0, u1, u2], _ => exact ⟨_, _, _, rfl⟩
    obtain ⟨w0, w1, w2, rfl, t0, t1, t2⟩ : ∃ w0 w1 w2, vs = [w0, w1, w2] ∧ IsT H4 (natsT u0) w0 ∧ IsT H4 (natsT u1) w1 ∧ IsT H4 (natsT u2) w2 := by
      cases pv4 with | cons r0 p => cases p with | cons r1 p => cases p with | cons r2 p => cases p; exact ⟨_, _, _, rfl, r0, r1, r2⟩
    obtain ⟨sa, rfl, esa⟩ := t0.nats
    obtain ⟨sp, rfl, esp⟩ := t1.nats
    obtain ⟨ss, rfl, ess⟩ := t2.nats
    refine ⟨_, rfl, _, b, d, pl2, _, rfl, by decide, bx4, fun ix H5 l5 u5 bx5 o5 => ?_⟩
    obtain ⟨c, hc⟩ : ∃ c : Sc, c = ⟨intsOf u0, intsOf u1, intsOf u2, ix⟩ := ⟨_, rfl⟩
    have hp5 := o5.keep p _ (by simp [nbp.symm]) hp4
    refine ⟨sz, fun l hl => ⟨sz, fun dl hdl => ?_⟩⟩
    have o6 := Oth.new (S := []) (o := .lst []) hl
    have o7 := Oth.new (S := []) (o := .lst []) hdl
    have o67 := o6.trans o7
    have nldl : l ≠ dl := ne_of_none (upd_same : (upd H5 l (.lst [])) l = _) hdl
    have hl7 := o7.keep l _ (by simp) upd_same
    have hp7 := o67.keep p _ (by simp) hp5
    have o27 : Oth [b, p] H2 (upd (upd H5 l (.lst [])) dl (.lst [])) := (o3.mono (by simp)).trans (o4.trans ((o5.mono (by simp)).trans (o67.mono (by simp))))
    have o37 : Oth [b, p] H3 (upd (upd H5 l (.lst [])) dl (.lst [])) := o4.trans ((o5.mono (by simp)).trans (o67.mono (by simp)))
    refine ⟨_, rfl, ai, _, _, _, rfl, rfl, SqT.of (o37.tup _ _ eai), at2, _, rfl, p, _, _, _, rfl, rfl, SqL.of hp7, at0, _, rfl, p, _, _, _, rfl, rfl, SqL.of hp7, at1, _, rfl, p, _, _, _, rfl, rfl, SqL.of hp7, at2, _, rfl, sz, fun sc hsc => ⟨_, rfl, sz, fun e1 he1 => ⟨sz, fun e2 he2 => ⟨sz, fun nl hnl => ?_⟩⟩⟩⟩
    have q1 := Oth.new (S := []) (o := .lst [.ref sa, .ref sp, .ref ss, .int ix]) hsc
    have q2 := Oth.new (S := []) (o := .tup []) he1
    have q3 := Oth.new (S := []) (o := .tup []) he2
    have q4 := Oth.new (S := []) (o := .lst []) hnl
    have q14 := q1.trans (q2.trans (q3.trans q4))
    have hdl14 := q14.keep dl _ (by simp) upd_same
    have ndlsc : sc ≠ dl := (ne_of_none (upd_same : (upd (upd H5 l (.lst [])) dl (.lst [])) dl = _) hsc).symm
    have nscnl : sc ≠ nl := ne_of_none ((q2.trans q3).keep sc _ (by simp) upd_same) hnl
    have ndlnl : dl ≠ nl := ne_of_none ((q1.trans (q2.trans q3)).keep dl _ (by simp) upd_same) hnl
    have esa14 := (o5.trans ((o67.trans q14).mono (by simp))).tup _ _ esa
    have esp14 := (o5.trans ((o67.trans q14).mono (by simp))).tup _ _ esp
    have ess14 := (o5.trans ((o67.trans q14).mono (by simp))).tup _ _ ess
    have cx1 : c.cells.map V.int = u0.map natV := by simp only [hc, ints_map]
    have cx2 : c.props.map V.int = u1.map natV := by simp only [hc, ints_map]
    have cx3 : c.store.map V.int = u2.map natV := by simp only [hc, ints_map]
    have cx4 : c.index = ix := by simp only [hc]
    rw [← cx1] at esa14; rw [← cx2] at esp14; rw [← cx3] at ess14
    clear hc
    subst cx4
    refine ⟨cq.cs, c, [], [], [], _, _, _, sc, sa, sp, ss, dl, nl, [], [], rfl, (tvc.oth o37).oth q14, .mk ((q3.trans q4).tup _ _ upd_same) .nil, .mk (q4.tup _ _ upd_same) .nil, (q2.trans (q3.trans q4)).keep sc _ (by simp) upd_same, esa14, esp14, ess14, hdl14, upd_same, .nil, by simp, ndlsc, nscnl, ndlnl, by omega, fines, by simp; omega, by simp; omega, by simp, by simp, fun pe H8 rs nL8 hpe epe fre ite ldl nl8 pn8 sh8 o8 => ?_⟩
    obtain ⟨neq, nnd⟩ := names_eq c cok.oks cok.ndp
    have nlnl : l ≠ nl := ne_of_none ((q1.trans (q2.trans q3)).keep l _ (by simp) hl7) hnl
    have npdl : p ≠ dl := ne_of_none (o6.keep p _ (by simp) hp5) hdl
    have npnl : p ≠ nl := ne_of_none ((q1.trans (q2.trans q3)).keep p _ (by simp) hp7) hnl
    have hl8 := o8.keep l _ (by simp [nldl, nlnl]) (q14.keep l _ (by simp) hl7)
    have hp8 := o8.keep p _ (by simp [npdl, npnl]) (q14.keep p _ (by simp) hp7)
    have o38 : Oth [b, p, dl, nl] H3 H8 := (o37.mono (by simp)).trans ((q14.mono (by simp)).trans (o8.mono (by simp)))
    -- what the program gives
    refine ⟨_, rfl, ai, _, _, _, rfl, rfl, SqT.of (o38.tup _ _ eai), at2, _, rfl, p, _, _, _, rfl, rfl, SqL.of hp8, at0, _, rfl, p, _, _, _, rfl, rfl, SqL.of hp8, at1, _, rfl, p, _, _, _, rfl, rfl, SqL.of hp8, at2, _, rfl, sz, fun sc2 hsc2 => ⟨_, rfl, ?_⟩⟩
    have q5 := Oth.new (S := []) (o := .tup [.str "scope", .ref sa, .ref sp, .ref ss, .int c.index]) hsc2
    refine ⟨cq.cs, c, _, _, l, [], rfl, (tvc.oth o38).oth q5, Sc.mk' (c := c) upd_same (q5.tup _ _ (o8.tup _ _ esa14)) (q5.tup _ _ (o8.tup _ _ esp14)) (q5.tup _ _ (o8.tup _ _ ess14)), q5.keep l _ (by simp) hl8, by omega, fines, by simp; omega, fun vt H9 tvt l9 o9 => ?_⟩
    have nple : pe ≠ l := (ne_of_none (q14.keep l _ (by simp) hl7) hpe).symm
    have fl := fre.ne (q14.keep l _ (by simp) hl7)
    have o89 := (q5.mono (S' := [l]) (by simp)).trans o9
    have epe9 := o89.keep pe _ (by simp [nple]) epe
    have ite9 : LItems H9 (lawNamed [] (Tp.dis c [] [] 0 cq.cs)) rs := ite.oth o89 (fun v hv a ha => by rw [List.mem_singleton.mp ha]; exact fl v hv)
    have hdl9 := o89.keep dl _ (by simp [nldl.symm]) ldl
    rw [List.nil_append] at hdl9 l9
    have lds := Tp.dis_len cq.cs c [] [] 0
    have lrs : rs.length = (lawNamed [] (Tp.dis c [] [] 0 cq.cs)).length := ite9.len
    have lrs4 : rs.length ≤ 400 := by rw [lrs, lawNamed_len]; omega
    have dep1 : ∀ x ∈ lawNamed [] (Tp.dis c [] [] 0 cq.cs), x.1.short ∧ Dep 15 (itemT x) := fun x hx => by
      have hs := sh8 x.1 (List.mem_map.mpr ⟨x, hx, rfl⟩)
      obtain ⟨dd, hdd, e1', e2'⟩ := lawNamed_tp _ _ x hx
      obtain ⟨y1, y2, y3⟩ := Tp.dis_tp cq.cs c [] [] 0 dd hdd
      obtain ⟨n', t', i'⟩ := x
      have cc := cok.cnts
      refine ⟨hs, Tp.item_dep (ts := cq.cs) hs ?_ ?_ ?_ 1⟩
      · rw [show t' = dd.tp from e1']; omega
      · rw [show t' = dd.tp from e1']; exact y3 fines
      · rw [show t' = dd.tp from e1']; omega
    rw [neq] at tvt
    generalize lawNamed [] (Tp.dis c [] [] 0 cq.cs) = its at ite9 lrs dep1 tvt nnd
    -- both compared
    refine ⟨_, rfl, _, rfl, pe, rfl, ⟨rs, SqL.of epe9⟩, fun D hD => lc_list (xs := rs)
      (fun j H => H pe = some (.lst rs) ∧ LItems H its rs ∧ ∃ vs : List V, H D = some (.lst vs) ∧ vs.length = j ∧ Paired (IsT H) ((its.take j).map itemT) vs ∧ Oth [D] H9 H)
      ⟨(Oth.new (S := []) hD).keep pe _ (by simp) epe9, ite9.oth (Oth.new (S := []) hD) (by simp), [], upd_same, rfl, .nil, Oth.new hD⟩ (fun j H _ hW => SqL.of hW.1) (fun j x H10 hx hW => ?_) (fun H10 hW => ?_)⟩
    · obtain ⟨hp10, it10, vs, hv, lv, pq10, o10⟩ := hW
      obtain ⟨it, gi, ra, rn, rr, rfl, er, i1, i2⟩ := it10.get hx
      have hj : j < rs.length := (List.getElem?_eq_some_iff.mp hx).1
      have npD : pe ≠ D := ne_of_none epe9 hD
      refine ⟨rfl, ⟨_, rfl, ra, _, _, _, rfl, rfl, SqL.of er, at0, _, rfl, ra, _, _, _, rfl, rfl, SqL.of er, at1, _, rfl, ra, _, _, _, rfl, rfl, SqL.of er, at2, sz, fun t ht => ?_⟩⟩
      have ot := Oth.new (S := [D]) (o := .tup [rn, rr, .int it.2.2]) ht
      have hv2 := (Oth.new (S := []) (o := .tup [rn, rr, .int it.2.2]) ht).keep D _ (by simp) hv
      have op : Oth [D] (upd H10 t (.tup [rn, rr, .int it.2.2])) (upd (upd H10 t (.tup [rn, rr, .int it.2.2])) D (.lst (vs ++ [.ref t]))) := Oth.put (by simp) hv2
      have fD : ∀ v ∈ rs, ∀ a ∈ [D], v ≠ .ref a := fun v hv a ha z => by
        rw [List.mem_singleton.mp ha] at z
        subst z
        obtain ⟨n1, hn1, e1⟩ := List.getElem_of_mem hv
        obtain ⟨_, _, _, _, _, ea, e2, _⟩ := ite9.get ((List.getElem?_eq_getElem hn1).trans (by rw [e1]))
        cases ea
        rw [hD] at e2
        cases e2
      refine ⟨vs, hv2, small1000 (by omega), (ot.trans op).keep pe _ (by simp [npD]) hp10, it10.oth (ot.trans op) fD, vs ++ [.ref t], upd_same, by rw [List.length_append, lv]; rfl, ?_, o10.trans (ot.trans op)⟩
      rw [take_snoc gi, List.map_append]
      exact paired_app (paired_oth (paired_oth pq10 ot) op) (.cons (.mk3 (op.tup _ _ upd_same) ((i1.oth ot).oth op) ((i2.oth ot).oth op) (.int _)) .nil)
    obtain ⟨hp10, it10, vs, hv, lv, pq10, o10⟩ := hW
    rw [lrs, List.take_length] at pq10
    have o910 := Oth.drop o10 hD
    refine .inl ⟨D, _, rfl, SqL.of hv, fun td htd => ?_⟩
    have o11 := Oth.new (S := []) (o := .tup vs) htd
    have o911 := o910.trans o11
    refine ⟨.tup (its.map itemT), _, _, rfl, tvt.oth o911, .mk upd_same (paired_oth pq10 o11), .tup _ _ (by rw [List.length_map]; omega) (fun t ht => by
      obtain ⟨x, hx, rfl⟩ := List.mem_map.mp ht
      exact (dep1 x hx).2), _, rfl, iteF ⟨_, rfl, _, rfl, ne_ints (ns := Tp.lks c cq.cs) (o911.keep l _ (by simp) l9) (o911.keep dl _ (by simp) hdl9) ⟨_, rfl, iteF ?_⟩⟩⟩
    have epe11 := o11.keep pe _ (by simp) hp10
    have it11 : LItems (upd H10 td (.tup vs)) its rs := it10.oth o11 (by simp)
    -- the names
    refine ⟨_, rfl, pe, rfl, ⟨rs, SqL.of epe11⟩, fun D2 hD2 => lc_list (xs := rs)
      (fun j H => H pe = some (.lst rs) ∧ LItems H its rs ∧ ∃ us : List V, H D2 = some (.lst us) ∧ us.length = j ∧ Paired (IsT H) ((its.take j).map fun x => x.1.toT) us ∧ Oth [D2] (upd H10 td (.tup vs)) H)
      ⟨(Oth.new (S := []) hD2).keep pe _ (by simp) epe11, it11.oth (Oth.new (S := []) hD2) (by simp), [], upd_same, rfl, .nil, Oth.new hD2⟩ (fun j H _ hW => SqL.of hW.1) (fun j x H12 hx hW => ?_) (fun H12 hW => ?_)⟩
    · obtain ⟨hp12, it12, us, hv, lv, pq12, o12⟩ := hW
      obtain ⟨it, gi, ra, rn, rr, rfl, er, i1, i2⟩ := it12.get hx
      have hj : j < rs.length := (List.getElem?_eq_some_iff.mp hx).1
      have npD : pe ≠ D2 := ne_of_none epe11 hD2
      refine ⟨rfl, ⟨_, rfl, ra, _, _, _, rfl, rfl, SqL.of er, at0, ?_⟩⟩
      have op : Oth [D2] H12 (upd H12 D2 (.lst (us ++ [rn]))) := Oth.put (by simp) hv
      have fD : ∀ v ∈ rs, ∀ a ∈ [D2], v ≠ .ref a := fun v hv a ha z => by
        rw [List.mem_singleton.mp ha] at z
        subst z
        obtain ⟨n1, hn1, e1⟩ := List.getElem_of_mem hv
        obtain ⟨_, _, _, _, _, ea, e2, _⟩ := it11.get ((List.getElem?_eq_getElem hn1).trans (by rw [e1]))
        cases ea
        rw [hD2] at e2
        cases e2
      refine ⟨us, hv, small1000 (by omega), op.keep pe _ (by simp [npD]) hp12, it12.oth op fD, us ++ [rn], upd_same, by rw [List.length_append, lv]; rfl, ?_, o12.trans op⟩
      rw [take_snoc gi, List.map_append]
      exact paired_app (paired_oth pq12 op) (.cons (i1.oth op) .nil)
    obtain ⟨hp12, it12, us, hv12, lv12, pq12, o12⟩ := hW
    rw [lrs, List.take_length] at pq12
    have o12' := Oth.drop o12 hD2
    obtain ⟨nms, hnms⟩ : ∃ nms, nms = its.map (·.1) := ⟨_, rfl⟩
    have pn12 : Paired (IsT H12) (nms.map Nm.toT) us := by rw [hnms, List.map_map]; exact pq12
    have shn : ∀ n ∈ nms, n.short := fun n hn => by
      rw [hnms] at hn
      obtain ⟨x, hx, rfl⟩ := List.mem_map.mp hn
      exact (dep1 x hx).1
    rw [← hnms] at nnd
    have lus : us.length = nms.length := by rw [(paired_get pn12).1, List.length_map]
    have o3_12 : Oth [b, p, dl, nl, l] H3 H12 := (o38.mono (by simp)).trans ((o89.mono (by simp)).trans ((o911.mono (by simp)).trans (o12'.mono (by simp))))
    refine ⟨_, rfl, D2, _, rfl, .inl (SqL.of hv12), _, rfl, by omega, by omega, for_range (lo := 0) (n := ((us.length : Nat) : Int).toNat)
      (fun j σ H13 => ∃ (y5 : Option V), σ = [some (.ref a), some (.ref b), some (.ref pa), some (.ref ai), some (.ref p), y5, some (.int c.index), some (.ref l), some (.ref dl), some (.ref pe), some vt, some (.ref D2), x12, x13, x14] ∧ Oth [] H12 H13)
      ⟨_, rfl, Oth.refl⟩ (fun j σ H13 hj hW => ?_) (fun σ H13 hW => ?_)⟩
    · obtain ⟨y5, rfl, o13⟩ := hW
      rw [show (0 : Int) + (j : Int) = (j : Int) from Int.zero_add _]
      have hj2 : j < us.length := by omega
      have hv13 := o13.keep D2 _ (by simp) hv12
      have gn : nms[j]? = some (nms[j]'(by omega)) := List.getElem?_eq_getElem _
      generalize hnj : nms[j]'(by omega) = nj at gn
      have tj : IsT H13 nj.toT us[j] := ((paired_get pn12).2 j _ _ (by rw [List.getElem?_map, gn]; rfl) (List.getElem?_eq_getElem hj2)).oth o13
      refine ⟨_, rfl, _, rfl, D2, _, _, _, rfl, rfl, SqL.of hv13, atI_nat (List.getElem?_eq_getElem hj2), _, rfl, _, rfl, _, rfl, sl_takeL (n := j) hv13 fun c5 H14 hc5 o14 e14 => ?_⟩
      refine ⟨nj.toT, (nms.take j).map Nm.toT, c5, us.take j, tj.oth o14, rfl, SqL.of e14, ?_, Nm.eqb (shn nj (List.mem_of_getElem? gn)), fun u hu => ?_, _, rfl, iteFb ?_ ?_⟩
      · rw [List.map_take]; exact paired_take (paired_oth (paired_oth pn12 o13) o14) j
      · obtain ⟨m, hm, rfl⟩ := List.mem_map.mp hu
        exact Nm.eqb (shn m (List.mem_of_mem_take hm))
      · show decide _ = false
        refine decide_eq_false fun z => ?_
        have hin := mem_nks.mp z
        obtain ⟨m, hm, e⟩ := List.getElem_of_mem hin
        rw [List.length_take] at hm
        rw [List.getElem_take] at e
        have hmn : m < nms.length := by omega
        have hjn : j < nms.length := by omega
        have z2 : nms[m] = nms[j] := by rw [e, hnj]
        exact (List.pairwise_iff_getElem.mp nnd m j hmn hjn (by omega)) z2
      · exact ⟨_, rfl, o13.trans o14⟩
    obtain ⟨y5, rfl, o13⟩ := hW
    have hv13 := o13.keep D2 _ (by simp) hv12
    refine ⟨_, rfl, 5, rfl, sl_takeL (n := 5) hv13 fun c6 H14 hc6 o14 e14 => .inl ⟨c6, _, rfl, SqL.of e14, fun tp htp => ?_⟩⟩
    have o15 := Oth.new (S := []) (o := .tup (us.take 5)) htp
    obtain ⟨ts, hts⟩ : ∃ ts, ts = (nms.take 5).map Nm.toT := ⟨_, rfl⟩
    have tpath : IsT (upd H14 tp (.tup (us.take 5))) (.tup ts) (.ref tp) := .mk upd_same (by rw [hts, List.map_take]; exact paired_take (paired_oth (paired_oth (paired_oth pn12 o13) o14) o15) 5)
    have lts : ts.length ≤ 5 := by rw [hts, List.length_map, List.length_take]; omega
    have ltu : (us.take 5).length = ts.length := by rw [hts, List.length_map, List.length_take, List.length_take, lus]
    have dts : ∀ t ∈ ts, Dep 14 t := fun t ht => by
      rw [hts] at ht
      obtain ⟨m, hm, rfl⟩ := List.mem_map.mp ht
      exact (Nm.dep (shn m (List.mem_of_mem_take hm)) 11)
    refine ⟨_, rfl, ts, _, rfl, tpath, by omega, fun rv H16 trv o16 => ?_⟩
    have etp16 := o16.tup _ _ (upd_same : (upd H14 tp (.tup (us.take 5))) tp = _)
    obtain ⟨_, xs5, hxs5, e5, p5⟩ := (tpath.oth o16).inv
    cases hxs5
    have e5' := e5
    rw [etp16] at e5'
    cases e5'
    refine ⟨_, rfl, tp, _, rfl, .inr (SqT.of etp16), _, rfl, by omega, by omega, fun D3 hD3 => lc_range (lo := 0) (n := (((us.take 5).length : Nat) : Int).toNat)
      (fun j H17 => ∃ vs : List V, H17 D3 = some (.lst vs) ∧ Paired (IsT H17) ((List.range j).map fun k => .tup (ts.take k)) vs ∧ Oth [D3] H16 H17)
      ⟨[], upd_same, .nil, Oth.new hD3⟩ (fun j H17 hj hW => ?_) (fun H17 hW => ?_)⟩
    · obtain ⟨vs, hD2, pv2, o2⟩ := hW
      refine ⟨rfl, ⟨_, rfl, _, rfl, ?_⟩⟩
      rw [show (0 : Int) + (j : Int) = (j : Int) from Int.zero_add _]
      refine ⟨_, rfl, ?_⟩
      refine sl_take (n := j) (o2.tup _ _ etp16) fun c3 H3 o3 e3 => ?_
      have hD3' := o3.keep D3 _ (by simp) hD2
      have op : Oth [D3] H3 (upd H3 D3 (.lst (vs ++ [.ref c3]))) := Oth.put (by simp) hD3'
      have lv := (paired_get pv2).1
      rw [List.length_map, List.length_range] at lv
      refine ⟨vs, hD3', small1000 (by omega), vs ++ [.ref c3], upd_same, ?_, o2.trans ((o3.mono (by simp)).trans op)⟩
      rw [List.range_succ, List.map_append]
      refine paired_app (paired_oth (paired_oth pv2 o3) op) (.cons ?_ .nil)
      exact .mk (op.tup _ _ e3) (paired_oth (paired_oth (paired_oth (paired_take p5 j) o2) o3) op)
    · obtain ⟨vs, hD2, pv2, o2⟩ := hW
      refine .inl ⟨D3, _, rfl, SqL.of hD2, fun t ht => ?_⟩
      have on := Oth.new (S := []) (o := .tup vs) ht
      rw [show (((us.take 5).length : Nat) : Int).toNat = ts.length by omega] at pv2
      have o1618 := (Oth.drop o2 hD3).trans on
      refine ⟨prefT ts, _, _, rfl, trv.oth o1618, .mk upd_same (paired_oth pv2 on), .tup _ _ (by rw [List.length_map, List.length_range]; omega) (fun u hu => ?_), _, rfl, iteF ?_⟩
      · obtain ⟨m, _, rfl⟩ := List.mem_map.mp hu
        exact .tup _ _ (by rw [List.length_take]; omega) fun v hv => dts v (List.mem_of_mem_take hv)
      · have oz : Oth [] H12 (upd H17 t (.tup vs)) := o13.trans (o14.trans (o15.trans (o16.trans o1618)))
        have o3z : Oth [b, p, dl, nl, l] H3 (upd H17 t (.tup vs)) := o3_12.trans (oz.mono (by simp))
        have o58 : Oth [dl, nl] H5 H8 := (o67.mono (by simp)).trans ((q14.mono (by simp)).trans o8)
        have nbl : b ≠ l := bx5.nb hl
        have nbdl : b ≠ dl := (bx5.new (o := .lst []) hl).nb hdl
        have bx7 := (bx5.new (o := .lst []) hl).new (o := .lst []) hdl
        have bxn := (((bx7.new (o := .lst [.ref sa, .ref sp, .ref ss, .int c.index]) hsc).new (o := .tup []) he1).new (o := .tup []) he2)
        have nbnl : b ≠ nl := bxn.nb hnl
        have oz5 : Oth [l, dl, nl] H5 (upd H17 t (.tup vs)) := (o58.mono (by simp)).trans ((o89.mono (by simp)).trans ((o911.mono (by simp)).trans ((o12'.mono (by simp)).trans (oz.mono (by simp)))))
        refine ⟨_, _, _, _, _, _, _, _, _, _, _, _, rfl, ?_, ?_⟩
        · exact bx5.oth oz5 (by simp [nbl, nbdl, nbnl]) (by simp [bx5.ndn hl, (bx5.new (o := .lst []) hl).ndn hdl, bxn.ndn hnl]) (by simp [bx5.npn hl, (bx5.new (o := .lst []) hl).npn hdl, bxn.npn hnl])
        · refine o3.trans ?_
          refine ⟨fun a o na ha => ?_, o3z.tup⟩
          refine o3z.keep a o ?_ ha
          intro hm
          simp only [List.mem_cons, List.not_mem_nil, or_false] at hm na
          rcases hm with e | e | e | e | e
          · exact na e
          · rw [e, hp] at ha; cases ha
          · subst e
            have hn5 : H5 a = none := by
              by_cases z : a = l
              · rw [z] at hdl; rw [upd_same] at hdl; cases hdl
              · rw [upd_ne z] at hdl; exact hdl
            have hn4 := bx5.fresh (H := H4) o5 hn5
            have hnb : a ≠ b := fun z => nbdl z.symm
            rw [o4.keep a o (by simp [hnb, npdl.symm]) ha] at hn4
            cases hn4
          · subst e
            have hnb : a ≠ b := fun z => nbnl z.symm
            have h7 := (o37.trans ((q1.trans (q2.trans q3)).mono (S' := [b, p]) (by simp))).keep a o (by simp [hnb, npnl.symm]) ha
            rw [h7] at hnl
            cases hnl
          · subst e
            have hn4 := bx5.fresh (H := H4) o5 hl
            have hnb : a ≠ b := fun z => nbl z.symm
            have npl : a ≠ p := (ne_of_none hp5 hl).symm
            rw [o4.keep a o (by simp [hnb, npl]) ha] at hn4
            cases hn4
  · obtain ⟨_, _, _, _, _, _, _, _, _, _, _, _, rfl, _⟩ := hW
    exact q _
end
theorem fn_none {P : Program} {w : World} {K : PySem.W.Frag} {mg : Str → Option Value} {base : Heap} {f : Addr} {fd : FuncData} {ps : List Str} {k : Nat} {sp : Sp} (no : ∀ vs H Q E, ¬ sp vs H Q E) : FnOk P w K mg base CX0 k f fd ps sp :=
  ⟨fun vs H Q E h => absurd h (no vs H Q E), fun A outer s H args us vs Q E _ _ _ _ h => absurd h (no vs H Q E)⟩
section
variable {P : Program} {w : World} {K : PySem.W.Frag} {mg : Str → Option Value} {base : Heap}
theorem all_value {f g t : Addr} {fd gd td : FuncData} {tv : Tok} (F : Fun K "value" "value" sValue f fd) (bS : Binds K fd ["expression", "scope", "looked"] []) (kS : PySem.W.keepIn K (.ref f) = true) (mS : mg "value" = some (.ref f))
    (G : FnOk P w K mg base CX0 2 g gd ["row", "at"] (spItem K)) (bG : Binds K gd ["row", "at"] []) (kG : PySem.W.keepIn K (.ref g) = true) (mG : mg "_item" = some (.ref g))
    (T : FnOk P w K mg base CX0 1 t td ["row", "at"] (spThere K)) (bT : Binds K td ["row", "at"] []) (kT : PySem.W.keepIn K (.ref t) = true) (mT : mg "_is_there" = some (.ref t)) (mV : mg "VALUES" = some (.int 1000 tv)) :
    ∀ n : Nat, FnOk P w K mg base CX0 (n + 2) f fd ["expression", "scope", "looked"] (spValue n)
  | 0 => fn_none fun vs H Q E h => by obtain ⟨e, c, ve, vc, l, L, _, _, _, _, h, _⟩ := h; omega
  | n + 1 => ok_value (k := n + 2) F (all_value F bS kS mS G bG kG mG T bT kT mT mV n) bS kS mS (G.mono (by omega)) bG kG mG (T.mono (by omega)) bT kT mT mV
theorem all_same {f : Addr} {fd : FuncData} (F : Fun K "_law_same" "_law_same" sSame f fd) (bS : Binds K fd ["actual", "expected"] []) (kS : PySem.W.keepIn K (.ref f) = true) (mS : mg "_law_same" = some (.ref f))
    (m_isinstance : mg "isinstance" = none) (m_tuple : mg "tuple" = none) (m_len : mg "len" = none) (m_range : mg "range" = none) (m_bool : mg "bool" = none) (m_int : mg "int" = none) (m_str : mg "str" = none) :
    ∀ n : Nat, FnOk P w K mg base CX0 n f fd ["actual", "expected"] (spSame n)
  | 0 => fn_none fun vs H Q E h => by obtain ⟨t, v, u, _, _, _, h, _⟩ := h; cases h
  | n + 1 => ok_same F (all_same F bS kS mS m_isinstance m_tuple m_len m_range m_bool m_int m_str n) bS kS mS m_isinstance m_tuple m_len m_range m_bool m_int m_str
theorem all_lawvalue {f : Addr} {fd : FuncData} (F : Fun K "_law_value" "_law_value" sLawValue f fd) (bV : Binds K fd ["e", "scope", "looked"] []) (kV : PySem.W.keepIn K (.ref f) = true) (mV : mg "_law_value" = some (.ref f)) (m_int : mg "int" = none) (m_len : mg "len" = none) :
    ∀ n : Nat, FnOk P w K mg base CX0 n f fd ["e", "scope", "looked"] (spLawValue n)
  | 0 => fn_none fun vs H Q E h => by obtain ⟨e, c, ve, s, ac, ap, as, l, L, _, _, _, _, _, _, _, _, h, _⟩ := h; omega
  | n + 1 => ok_lawvalue F (all_lawvalue F bV kV mV m_int m_len n) bV kV mV m_int m_len
theorem all_expr {f g : Addr} {fd gd : FuncData} (F : Fun K "_law_expr" "_law_expr" sExpr f fd) (bE : Binds K fd ["box", "depth"] []) (kE : PySem.W.keepIn K (.ref f) = true) (mE : mg "_law_expr" = some (.ref f))
    (GR : FnOk P w K mg base CX0 1 g gd ["box", "many"] spDrawY) (bR : Binds K gd ["box", "many"] []) (kR : PySem.W.keepIn K (.ref g) = true) (mR : mg "_law_draw" = some (.ref g)) (m_int : mg "int" = none) :
    ∀ n : Nat, FnOk P w K mg base CX0 (n + 1) f fd ["box", "depth"] (spExprY n)
  | 0 => fn_none fun vs H Q E h => by obtain ⟨z, b, dg, pl, d, _, h, _⟩ := h; omega
  | n + 1 => ok_expr (k := n + 1) F (all_expr F bE kE mE GR bR kR mR m_int n) bE kE mE (GR.mono (by omega)) bR kR mR m_int
theorem all_tpl {fT fN fE fR fK : Addr} {dT dN dE dR dK : FuncData} (FT : Fun K "_law_template" "_law_template" sTemplate fT dT) (FN : Fun K "_law_contents" "_law_contents" sContents fN dN)
    (GE : FnOk P w K mg base CX0 3 fE dE ["box", "depth"] (spExprY 2)) (bE : Binds K dE ["box", "depth"] []) (kE : PySem.W.keepIn K (.ref fE) = true) (mE : mg "_law_expr" = some (.ref fE))
    (GR : FnOk P w K mg base CX0 1 fR dR ["box", "many"] spDrawY) (bR : Binds K dR ["box", "many"] []) (kR : PySem.W.keepIn K (.ref fR) = true) (mR : mg "_law_draw" = some (.ref fR))
    (GK : FnOk P w K mg base CX0 4 fK dK ["box"] spKeyY) (bK : Binds K dK ["box"] []) (kK : PySem.W.keepIn K (.ref fK) = true) (mK : mg "_law_key" = some (.ref fK))
    (bT : Binds K dT ["box", "own", "level", "last", "free"] []) (kT : PySem.W.keepIn K (.ref fT) = true) (mT : mg "_law_template" = some (.ref fT))
    (bN : Binds K dN ["box", "own", "level", "last", "free"] []) (kN : PySem.W.keepIn K (.ref fN) = true) (mN : mg "_law_contents" = some (.ref fN))
    (m_int : mg "int" = none) (m_len : mg "len" = none) (m_range : mg "range" = none) (m_tuple : mg "tuple" = none) :
    ∀ n : Nat, FnOk P w K mg base CX0 (4 + 2 * n) fT dT ["box", "own", "level", "last", "free"] (spTemplateY n) ∧ FnOk P w K mg base CX0 (5 + 2 * n) fN dN ["box", "own", "level", "last", "free"] (spContentsY n)
  | 0 => by
    have t0 : FnOk P w K mg base CX0 4 fT dT ["box", "own", "level", "last", "free"] (spTemplateY 0) := fn_none fun vs H Q E h => by obtain ⟨z, b, dg, pl, own, level, last, r, free, _, _, h, _⟩ := h; omega
    exact ⟨t0, ok_contents (k := 4) FN (GR.mono (by decide)) bR kR mR t0 bT kT mT m_range m_tuple⟩
  | n + 1 => by
    obtain ⟨ht, hn⟩ := all_tpl FT FN GE bE kE mE GR bR kR mR GK bK kK mK bT kT mT bN kN mN m_int m_len m_range m_tuple n
    have t1 : FnOk P w K mg base CX0 (4 + 2 * (n + 1)) fT dT ["box", "own", "level", "last", "free"] (spTemplateY (n + 1)) := by
      have := ok_template (k := 5 + 2 * n) FT (GE.mono (by omega)) bE kE mE (GR.mono (by omega)) bR kR mR (GK.mono (by omega)) bK kK mK hn bN kN mN m_int m_len m_range m_tuple
      exact this.mono (by omega)
    exact ⟨t1, (ok_contents (k := 4 + 2 * (n + 1)) FN (GR.mono (by omega)) bR kR mR t1 bT kT mT m_range m_tuple).mono (by omega)⟩
theorem all_lawlay {f fV : Addr} {fd dV : FuncData} (F : Fun K "_law_lay" "_law_lay" sLawLay f fd)
    (bL : Binds K fd ["contents", "scope", "looked", "address", "repeats", "names"] []) (kL : PySem.W.keepIn K (.ref f) = true) (mL : mg "_law_lay" = some (.ref f))
    (GV : FnOk P w K mg base CX0 4 fV dV ["e", "scope", "looked"] (spLawValue 4)) (bV : Binds K dV ["e", "scope", "looked"] []) (kV : PySem.W.keepIn K (.ref fV) = true) (mV : mg "_law_value" = some (.ref fV))
    (m_range : mg "range" = none) (m_len : mg "len" = none) (m_int : mg "int" = none) :
    ∀ n : Nat, FnOk P w K mg base CX0 (n + 4) f fd ["contents", "scope", "looked", "address", "repeats", "names"] (spLawLay n)
  | 0 => fn_none fun vs H Q E h => by obtain ⟨ts, c, be, re, tk, vt, va, vr, s, sa, sp, ss, l, nl, L, nL, _, _, _, _, _, _, _, _, _, _, _, _, _, _, _, h, _⟩ := h; omega
  | n + 1 => ok_lawlay (k := n + 4) F (all_lawlay F bL kL mL GV bV kV mV m_range m_len m_int n) bL kL mL (GV.mono (by omega)) bV kV mV m_range m_len m_int
theorem all_dis {f fV fW : Addr} {fd dV dW : FuncData} {tR : Tok} (F : Fun K "_dissolved" "_dissolved" sDis f fd)
    (bDd : Binds K fd ["contents", "before", "repeats", "scope", "looked"] []) (kDd : PySem.W.keepIn K (.ref f) = true) (mDd : mg "_dissolved" = some (.ref f))
    (GV : FnOk P w K mg base CX0 6 fV dV ["expression", "scope", "looked"] (spValue 4)) (bV : Binds K dV ["expression", "scope", "looked"] []) (kV : PySem.W.keepIn K (.ref fV) = true) (mV : mg "value" = some (.ref fV))
    (GDw : FnOk P w K mg base CX0 8 fW dW ["template", "other", "scope", "looked"] spWished) (bDw : Binds K dW ["template", "other", "scope", "looked"] []) (kDw : PySem.W.keepIn K (.ref fW) = true) (mDw : mg "_wished" = some (.ref fW))
    (m_enumerate : mg "enumerate" = none) (m_range : mg "range" = none) (c_RE : mg "REPEATS" = some (.int 6 tR)) :
    ∀ n : Nat, FnOk P w K mg base CX0 (n + 8) f fd ["contents", "before", "repeats", "scope", "looked"] (spDis n)
  | 0 => fn_none fun vs H Q E h => by obtain ⟨ts, c, be, re, vt, vb, vr, vc, l, L, _, _, _, _, _, _, h, _⟩ := h; omega
  | n + 1 => ok_dis (k := n + 8) F (all_dis F bDd kDd mDd GV bV kV mV GDw bDw kDw mDw m_enumerate m_range c_RE n) bDd kDd mDd (GV.mono (by omega)) bV kV mV (GDw.mono (by omega)) bDw kDw mDw m_enumerate m_range c_RE
end
theorem all_mk {l : PySem.W.OpenLaw} {w : World} {K : PySem.W.Frag} {h : Heap} {mg : Str → Option Value} {fa fV fH fI fDo fDp fDd fDw fDk fC fD fR fS fE fK fT fN fA fP fB fLv fLl fw : Addr} (X : K.In h) (G : h.Ns mainGlobals mg) (hfa : mg "law" = some (.ref fa))
    {odV anV odH anH odI anI odDo anDo odDp anDp odDd anDd odDw anDw odDk anDk odC anC odD anD odR anR odS anS odE anE odK anK odT anT odN anN odA anA odP anP odB anB odLv anLv odLl anLl odw anw : Option Addr} {slV slH slI slDo slDp slDd slDw slDk slC slD slR slS slE slK slT slN slA slP slB slLv slLl slw : Array (Option Value)} {ocV kVV dcV pmV cdV ctV ocH kVH dcH pmH cdH ctH ocI kVI dcI pmI cdI ctI ocDo kVDo dcDo pmDo cdDo ctDo ocDp kVDp dcDp pmDp cdDp ctDp ocDd kVDd dcDd pmDd cdDd ctDd ocDw kVDw dcDw pmDw cdDw ctDw ocDk kVDk dcDk pmDk cdDk ctDk ocC kVC dcC pmC cdC ctC ocD kVD dcD pmD cdD ctD ocR kVR dcR pmR cdR ctR ocS kVS dcS pmS cdS ctS ocE kVE dcE pmE cdE ctE ocK kVK dcK pmK cdK ctK ocT kVT dcT pmT cdT ctT ocN kVN dcN pmN cdN ctN ocA kVA dcA pmA cdA ctA ocP kVP dcP pmP cdP ctP ocB kVB dcB pmB cdB ctB ocLv kVLv dcLv pmLv cdLv ctLv ocLl kVLl dcLl pmLl cdLl ctLl ocw kVw dcw pmw cdw ctw : Value} {tv : Tok} {tR : Tok}
    (aV : PySem.W.nsIn K mainGlobals "value" = some (some (.ref fV))) (lV : K.lookup fV = some ⟨ocV, odV, .func (PySem.W.fnOf "value" "value" (defArgs sValue) (defBody sValue) (defScope sValue) .none kVV dcV pmV anV cdV ctV), slV⟩) (cV : PySem.W.codeIn K cdV "value" = true) (kV : PySem.W.keepIn K (.ref fV) = true)
    (aH : PySem.W.nsIn K mainGlobals "_is_there" = some (some (.ref fH))) (lH : K.lookup fH = some ⟨ocH, odH, .func (PySem.W.fnOf "_is_there" "_is_there" (defArgs sThere) (defBody sThere) (defScope sThere) .none kVH dcH pmH anH cdH ctH), slH⟩) (cH : PySem.W.codeIn K cdH "_is_there" = true) (kH : PySem.W.keepIn K (.ref fH) = true)
    (aI : PySem.W.nsIn K mainGlobals "_item" = some (some (.ref fI))) (lI : K.lookup fI = some ⟨ocI, odI, .func (PySem.W.fnOf "_item" "_item" (defArgs sItem) (defBody sItem) (defScope sItem) .none kVI dcI pmI anI cdI ctI), slI⟩) (cI : PySem.W.codeIn K cdI "_item" = true) (kI : PySem.W.keepIn K (.ref fI) = true)
    (aDo : PySem.W.nsIn K mainGlobals "lay_out" = some (some (.ref fDo))) (lDo : K.lookup fDo = some ⟨ocDo, odDo, .func (PySem.W.fnOf "lay_out" "lay_out" (defArgs sLayOut) (defBody sLayOut) (defScope sLayOut) .none kVDo dcDo pmDo anDo cdDo ctDo), slDo⟩) (cDo : PySem.W.codeIn K cdDo "lay_out" = true) (kDo : PySem.W.keepIn K (.ref fDo) = true)
    (aDp : PySem.W.nsIn K mainGlobals "parts_of" = some (some (.ref fDp))) (lDp : K.lookup fDp = some ⟨ocDp, odDp, .func (PySem.W.fnOf "parts_of" "parts_of" (defArgs sPartsOf) (defBody sPartsOf) (defScope sPartsOf) .none kVDp dcDp pmDp anDp cdDp ctDp), slDp⟩) (cDp : PySem.W.codeIn K cdDp "parts_of" = true) (kDp : PySem.W.keepIn K (.ref fDp) = true)
    (aDd : PySem.W.nsIn K mainGlobals "_dissolved" = some (some (.ref fDd))) (lDd : K.lookup fDd = some ⟨ocDd, odDd, .func (PySem.W.fnOf "_dissolved" "_dissolved" (defArgs sDis) (defBody sDis) (defScope sDis) .none kVDd dcDd pmDd anDd cdDd ctDd), slDd⟩) (cDd : PySem.W.codeIn K cdDd "_dissolved" = true) (kDd : PySem.W.keepIn K (.ref fDd) = true)
    (aDw : PySem.W.nsIn K mainGlobals "_wished" = some (some (.ref fDw))) (lDw : K.lookup fDw = some ⟨ocDw, odDw, .func (PySem.W.fnOf "_wished" "_wished" (defArgs sWished) (defBody sWished) (defScope sWished) .none kVDw dcDw pmDw anDw cdDw ctDw), slDw⟩) (cDw : PySem.W.codeIn K cdDw "_wished" = true) (kDw : PySem.W.keepIn K (.ref fDw) = true)
    (aDk : PySem.W.nsIn K mainGlobals "_by_key" = some (some (.ref fDk))) (lDk : K.lookup fDk = some ⟨ocDk, odDk, .func (PySem.W.fnOf "_by_key" "_by_key" (defArgs sByKey) (defBody sByKey) (defScope sByKey) .none kVDk dcDk pmDk anDk cdDk ctDk), slDk⟩) (cDk : PySem.W.codeIn K cdDk "_by_key" = true) (kDk : PySem.W.keepIn K (.ref fDk) = true)
    (aC : PySem.W.nsIn K mainGlobals "_law_cell" = some (some (.ref fC))) (lC : K.lookup fC = some ⟨ocC, odC, .func (PySem.W.fnOf "_law_cell" "_law_cell" (defArgs sCell) (defBody sCell) (defScope sCell) .none kVC dcC pmC anC cdC ctC), slC⟩) (cC : PySem.W.codeIn K cdC "_law_cell" = true) (kC : PySem.W.keepIn K (.ref fC) = true)
    (aD : PySem.W.nsIn K mainGlobals "_law_digits" = some (some (.ref fD))) (lD : K.lookup fD = some ⟨ocD, odD, .func (PySem.W.fnOf "_law_digits" "_law_digits" (defArgs sDigits) (defBody sDigits) (defScope sDigits) .none kVD dcD pmD anD cdD ctD), slD⟩) (cD : PySem.W.codeIn K cdD "_law_digits" = true) (kD : PySem.W.keepIn K (.ref fD) = true)
    (aR : PySem.W.nsIn K mainGlobals "_law_draw" = some (some (.ref fR))) (lR : K.lookup fR = some ⟨ocR, odR, .func (PySem.W.fnOf "_law_draw" "_law_draw" (defArgs sDraw) (defBody sDraw) (defScope sDraw) .none kVR dcR pmR anR cdR ctR), slR⟩) (cR : PySem.W.codeIn K cdR "_law_draw" = true) (kR : PySem.W.keepIn K (.ref fR) = true)
    (aS : PySem.W.nsIn K mainGlobals "_law_same" = some (some (.ref fS))) (lS : K.lookup fS = some ⟨ocS, odS, .func (PySem.W.fnOf "_law_same" "_law_same" (defArgs sSame) (defBody sSame) (defScope sSame) .none kVS dcS pmS anS cdS ctS), slS⟩) (cS : PySem.W.codeIn K cdS "_law_same" = true) (kS : PySem.W.keepIn K (.ref fS) = true)
    (aE : PySem.W.nsIn K mainGlobals "_law_expr" = some (some (.ref fE))) (lE : K.lookup fE = some ⟨ocE, odE, .func (PySem.W.fnOf "_law_expr" "_law_expr" (defArgs sExpr) (defBody sExpr) (defScope sExpr) .none kVE dcE pmE anE cdE ctE), slE⟩) (cE : PySem.W.codeIn K cdE "_law_expr" = true) (kE : PySem.W.keepIn K (.ref fE) = true)
    (aK : PySem.W.nsIn K mainGlobals "_law_key" = some (some (.ref fK))) (lK : K.lookup fK = some ⟨ocK, odK, .func (PySem.W.fnOf "_law_key" "_law_key" (defArgs sKey) (defBody sKey) (defScope sKey) .none kVK dcK pmK anK cdK ctK), slK⟩) (cK : PySem.W.codeIn K cdK "_law_key" = true) (kK : PySem.W.keepIn K (.ref fK) = true)
    (aT : PySem.W.nsIn K mainGlobals "_law_template" = some (some (.ref fT))) (lT : K.lookup fT = some ⟨ocT, odT, .func (PySem.W.fnOf "_law_template" "_law_template" (defArgs sTemplate) (defBody sTemplate) (defScope sTemplate) .none kVT dcT pmT anT cdT ctT), slT⟩) (cT : PySem.W.codeIn K cdT "_law_template" = true) (kT : PySem.W.keepIn K (.ref fT) = true)
    (aN : PySem.W.nsIn K mainGlobals "_law_contents" = some (some (.ref fN))) (lN : K.lookup fN = some ⟨ocN, odN, .func (PySem.W.fnOf "_law_contents" "_law_contents" (defArgs sContents) (defBody sContents) (defScope sContents) .none kVN dcN pmN anN cdN ctN), slN⟩) (cN : PySem.W.codeIn K cdN "_law_contents" = true) (kN : PySem.W.keepIn K (.ref fN) = true)
    (aA : PySem.W.nsIn K mainGlobals "_law_actions" = some (some (.ref fA))) (lA : K.lookup fA = some ⟨ocA, odA, .func (PySem.W.fnOf "_law_actions" "_law_actions" (defArgs sActions) (defBody sActions) (defScope sActions) .none kVA dcA pmA anA cdA ctA), slA⟩) (cA : PySem.W.codeIn K cdA "_law_actions" = true) (kA : PySem.W.keepIn K (.ref fA) = true)
    (aP : PySem.W.nsIn K mainGlobals "_law_program" = some (some (.ref fP))) (lP : K.lookup fP = some ⟨ocP, odP, .func (PySem.W.fnOf "_law_program" "_law_program" (defArgs sProgram) (defBody sProgram) (defScope sProgram) .none kVP dcP pmP anP cdP ctP), slP⟩) (cP : PySem.W.codeIn K cdP "_law_program" = true) (kP : PySem.W.keepIn K (.ref fP) = true)
    (aB : PySem.W.nsIn K mainGlobals "_law_box" = some (some (.ref fB))) (lB : K.lookup fB = some ⟨ocB, odB, .func (PySem.W.fnOf "_law_box" "_law_box" (defArgs sBox) (defBody sBox) (defScope sBox) .none kVB dcB pmB anB cdB ctB), slB⟩) (cB : PySem.W.codeIn K cdB "_law_box" = true) (kB : PySem.W.keepIn K (.ref fB) = true)
    (aLv : PySem.W.nsIn K mainGlobals "_law_value" = some (some (.ref fLv))) (lLv : K.lookup fLv = some ⟨ocLv, odLv, .func (PySem.W.fnOf "_law_value" "_law_value" (defArgs sLawValue) (defBody sLawValue) (defScope sLawValue) .none kVLv dcLv pmLv anLv cdLv ctLv), slLv⟩) (cLv : PySem.W.codeIn K cdLv "_law_value" = true) (kLv : PySem.W.keepIn K (.ref fLv) = true)
    (aLl : PySem.W.nsIn K mainGlobals "_law_lay" = some (some (.ref fLl))) (lLl : K.lookup fLl = some ⟨ocLl, odLl, .func (PySem.W.fnOf "_law_lay" "_law_lay" (defArgs sLawLay) (defBody sLawLay) (defScope sLawLay) .none kVLl dcLl pmLl anLl cdLl ctLl), slLl⟩) (cLl : PySem.W.codeIn K cdLl "_law_lay" = true) (kLl : PySem.W.keepIn K (.ref fLl) = true)
    (aw : PySem.W.nsIn K mainGlobals "law" = some (some (.ref fw))) (lw : K.lookup fw = some ⟨ocw, odw, .func (PySem.W.fnOf "law" "law" (defArgs sLaw) (defBody sLaw) (defScope sLaw) .none kVw dcw pmw anw cdw ctw), slw⟩) (cw : PySem.W.codeIn K cdw "law" = true) (kw : PySem.W.keepIn K (.ref fw) = true)
    (z_len : PySem.W.nsIn K mainGlobals "len" = some none)
    (z_range : PySem.W.nsIn K mainGlobals "range" = some none)
    (z_int : PySem.W.nsIn K mainGlobals "int" = some none)
    (z_isinstance : PySem.W.nsIn K mainGlobals "isinstance" = some none)
    (z_tuple : PySem.W.nsIn K mainGlobals "tuple" = some none)
    (z_bool : PySem.W.nsIn K mainGlobals "bool" = some none)
    (z_str : PySem.W.nsIn K mainGlobals "str" = some none)
    (z_list : PySem.W.nsIn K mainGlobals "list" = some none)
    (z_max : PySem.W.nsIn K mainGlobals "max" = some none)
    (z_enumerate : PySem.W.nsIn K mainGlobals "enumerate" = some none)
    (y_VALUES : PySem.W.nsIn K mainGlobals "VALUES" = some (some (.int 1000 tv)))
    (y_REPEATS : PySem.W.nsIn K mainGlobals "REPEATS" = some (some (.int 6 tR))) :
    ∃ fd : FuncData, (∀ (s : Shared) (v : Value), BindsTo s fd ⟨[v], []⟩ [("script", v)]) ∧ ∀ base : Heap, K.In base → base.Ns mainGlobals mg → FnOk l.prog w K mg base CX0 17 fa fd ["script"] (spLawY K) := by
  have e := hfa.symm.trans (PySem.W.mg_of X G aw)
  cases e
  have FV := fun_mk (st := sValue) lV cV kV
  have mV := PySem.W.mg_of X G aV
  have bV := FV.binds (ps := ["expression", "scope", "looked"]) fun _ _ _ _ _ _ us hl => match us, hl with | [_, _, _], _ => rfl
  have FH := fun_mk (st := sThere) lH cH kH
  have mH := PySem.W.mg_of X G aH
  have bH := FH.binds (ps := ["row", "at"]) fun _ _ _ _ _ _ us hl => match us, hl with | [_, _], _ => rfl
  have FI := fun_mk (st := sItem) lI cI kI
  have mI := PySem.W.mg_of X G aI
  have bI := FI.binds (ps := ["row", "at"]) fun _ _ _ _ _ _ us hl => match us, hl with | [_, _], _ => rfl
  have FDo := fun_mk (st := sLayOut) lDo cDo kDo
  have mDo := PySem.W.mg_of X G aDo
  have bDo := FDo.binds (ps := ["contents", "scope", "looked"]) fun _ _ _ _ _ _ us hl => match us, hl with | [_, _, _], _ => rfl
  have FDp := fun_mk (st := sPartsOf) lDp cDp kDp
  have mDp := PySem.W.mg_of X G aDp
  have bDp := FDp.binds (ps := ["path"]) fun _ _ _ _ _ _ us hl => match us, hl with | [_], _ => rfl
  have FDd := fun_mk (st := sDis) lDd cDd kDd
  have mDd := PySem.W.mg_of X G aDd
  have bDd := FDd.binds (ps := ["contents", "before", "repeats", "scope", "looked"]) fun _ _ _ _ _ _ us hl => match us, hl with | [_, _, _, _, _], _ => rfl
  have FDw := fun_mk (st := sWished) lDw cDw kDw
  have mDw := PySem.W.mg_of X G aDw
  have bDw := FDw.binds (ps := ["template", "other", "scope", "looked"]) fun _ _ _ _ _ _ us hl => match us, hl with | [_, _, _, _], _ => rfl
  have FDk := fun_mk (st := sByKey) lDk cDk kDk
  have mDk := PySem.W.mg_of X G aDk
  have bDk := FDk.binds (ps := ["key", "other", "scope", "looked"]) fun _ _ _ _ _ _ us hl => match us, hl with | [_, _, _, _], _ => rfl
  have FC := fun_mk (st := sCell) lC cC kC
  have mC := PySem.W.mg_of X G aC
  have bC := FC.binds (ps := ["script", "k"]) fun _ _ _ _ _ _ us hl => match us, hl with | [_, _], _ => rfl
  have FD := fun_mk (st := sDigits) lD cD kD
  have mD := PySem.W.mg_of X G aD
  have bD := FD.binds (ps := ["script", "first", "last"]) fun _ _ _ _ _ _ us hl => match us, hl with | [_, _, _], _ => rfl
  have FR := fun_mk (st := sDraw) lR cR kR
  have mR := PySem.W.mg_of X G aR
  have bR := FR.binds (ps := ["box", "many"]) fun _ _ _ _ _ _ us hl => match us, hl with | [_, _], _ => rfl
  have FS := fun_mk (st := sSame) lS cS kS
  have mS := PySem.W.mg_of X G aS
  have bS := FS.binds (ps := ["actual", "expected"]) fun _ _ _ _ _ _ us hl => match us, hl with | [_, _], _ => rfl
  have FE := fun_mk (st := sExpr) lE cE kE
  have mE := PySem.W.mg_of X G aE
  have bE := FE.binds (ps := ["box", "depth"]) fun _ _ _ _ _ _ us hl => match us, hl with | [_, _], _ => rfl
  have FK := fun_mk (st := sKey) lK cK kK
  have mK := PySem.W.mg_of X G aK
  have bK := FK.binds (ps := ["box"]) fun _ _ _ _ _ _ us hl => match us, hl with | [_], _ => rfl
  have FT := fun_mk (st := sTemplate) lT cT kT
  have mT := PySem.W.mg_of X G aT
  have bT := FT.binds (ps := ["box", "own", "level", "last", "free"]) fun _ _ _ _ _ _ us hl => match us, hl with | [_, _, _, _, _], _ => rfl
  have FN := fun_mk (st := sContents) lN cN kN
  have mN := PySem.W.mg_of X G aN
  have bN := FN.binds (ps := ["box", "own", "level", "last", "free"]) fun _ _ _ _ _ _ us hl => match us, hl with | [_, _, _, _, _], _ => rfl
  have FA := fun_mk (st := sActions) lA cA kA
  have mA := PySem.W.mg_of X G aA
  have bA := FA.binds (ps := ["box"]) fun _ _ _ _ _ _ us hl => match us, hl with | [_], _ => rfl
  have FP := fun_mk (st := sProgram) lP cP kP
  have mP := PySem.W.mg_of X G aP
  have bP := FP.binds (ps := ["box"]) fun _ _ _ _ _ _ us hl => match us, hl with | [_], _ => rfl
  have FB := fun_mk (st := sBox) lB cB kB
  have mB := PySem.W.mg_of X G aB
  have bB := FB.binds (ps := ["script", "first", "last"]) fun _ _ _ _ _ _ us hl => match us, hl with | [_, _, _], _ => rfl
  have FLv := fun_mk (st := sLawValue) lLv cLv kLv
  have mLv := PySem.W.mg_of X G aLv
  have bLv := FLv.binds (ps := ["e", "scope", "looked"]) fun _ _ _ _ _ _ us hl => match us, hl with | [_, _, _], _ => rfl
  have FLl := fun_mk (st := sLawLay) lLl cLl kLl
  have mLl := PySem.W.mg_of X G aLl
  have bLl := FLl.binds (ps := ["contents", "scope", "looked", "address", "repeats", "names"]) fun _ _ _ _ _ _ us hl => match us, hl with | [_, _, _, _, _, _], _ => rfl
  have Fw := fun_mk (st := sLaw) lw cw kw
  have mw := PySem.W.mg_of X G aw
  have m_len := PySem.W.mg_none_of X G z_len
  have m_range := PySem.W.mg_none_of X G z_range
  have m_int := PySem.W.mg_none_of X G z_int
  have m_isinstance := PySem.W.mg_none_of X G z_isinstance
  have m_tuple := PySem.W.mg_none_of X G z_tuple
  have m_bool := PySem.W.mg_none_of X G z_bool
  have m_str := PySem.W.mg_none_of X G z_str
  have m_list := PySem.W.mg_none_of X G z_list
  have m_max := PySem.W.mg_none_of X G z_max
  have m_enumerate := PySem.W.mg_none_of X G z_enumerate
  have c_VALUES := PySem.W.mg_of X G y_VALUES
  have c_REPEATS := PySem.W.mg_of X G y_REPEATS
  refine ⟨PySem.W.fnOf "law" "law" (defArgs sLaw) (defBody sLaw) (defScope sLaw) .none kVw dcw pmw anw cdw ctw, fun s v => .of_eq rfl, fun base _ _ => ?_⟩
  have gH := ok_there (P := l.prog) (w := w) (base := base) (k := 0) FH m_len
  have gI := ok_item (k := 1) FI gH bH kH mH
  have gV := all_value FV bV kV mV gI bI kI mI gH bH kH mH c_VALUES 4
  have gDk := ok_bykey (k := 6) FDk gV bV kV mV
  have gDw := ok_wished (k := 7) FDw gDk bDk kDk mDk
  have gDd := all_dis FDd bDd kDd mDd gV bV kV mV gDw bDw kDw mDw m_enumerate m_range c_REPEATS 4
  have gDo := ok_layout (k := 12) FDo gDd bDd kDd mDd m_tuple (by decide)
  have gC := ok_cell (P := l.prog) (w := w) (base := base) (k := 0) FC m_len
  have gD := ok_digits (k := 1) FD gC bC kC mC m_range m_int
  have gR := Pw.FnOk.weak (sp' := spDrawY) (ok_draw (P := l.prog) (w := w) (base := base) (k := 0) FR m_len m_int) fun _ _ _ _ h => draw_y h
  have gS := all_same (P := l.prog) (w := w) (base := base) FS bS kS mS m_isinstance m_tuple m_len m_range m_bool m_int m_str 16
  have gE := all_expr FE bE kE mE gR bR kR mR m_int 2
  have gK := ok_key (k := 3) FK gE bE kE mE (gR.mono (by decide)) bR kR mR
  have gN := (all_tpl FT FN gE bE kE mE gR bR kR mR gK bK kK mK bT kT mT bN kN mN m_int m_len m_range m_tuple 4).2
  have gA := ok_actions (k := 3) FA gE bE kE mE (gR.mono (by decide)) bR kR mR m_range m_tuple
  have gP := ok_program (k := 13) FP (gR.mono (by decide)) bR kR mR gN bN kN mN (gA.mono (by decide)) bA kA mA m_range m_tuple m_list m_len m_max
  have gB := ok_box (k := 2) FB gD bD kD mD
  have gLv := all_lawvalue (P := l.prog) (w := w) (base := base) FLv bLv kLv mLv m_int m_len 4
  have gLl := all_lawlay FLl bLl kLl mLl gLv bLv kLv mLv m_range m_len m_int 4
  have gDp := ok_partsof (P := l.prog) (w := w) (base := base) (k := 0) FDp m_range m_tuple m_len
  exact ok_law (k := 16) Fw (gB.mono (by decide)) bB kB mB (gP.mono (by decide)) bP kP mP (gR.mono (by decide)) bR kR mR (gLl.mono (by decide)) bLl kLl mLl (gDo.mono (by decide)) bDo kDo mDo (gS.mono (by decide)) bS kS mS (gDp.mono (by decide)) bDp kDp mDp m_tuple m_range m_len
theorem walk {l : PySem.W.OpenLaw} {q : Program} {loose : List Str} {XP : (Str → Option Value) → Heap → Prop} {YP : World → Heap → Prop} {d : DefRec} {K : Params → PySem.W.Frag} (hn : l.most = some 63) (hdf : d.params.defaults = [])
    (hY : ∀ (w : World) (h : Heap), YP w h → (K w.params).In h)
    (F : ∀ (w : World) (mg : Str → Option Value) (fa : Addr) (h : Heap), (K w.params).In h → h.Ns mainGlobals mg → mg d.name = some (.ref fa) →
      ∃ fd : FuncData, (∀ (s : Shared) (u : Value), BindsTo s fd ⟨[u], []⟩ [("script", u)]) ∧ ∀ base : Heap, (K w.params).In base → base.Ns mainGlobals mg → FnOk l.prog w (K w.params) mg base CX0 17 fa fd ["script"] (spLawY (K w.params))) :
    PySem.W.WalkO q loose XP YP l.row.toRowW d [] (fun f vs => PySem.call f vs) :=
  L2.walk_of (n := 63) (k := 17) (x := "script") (CX := fun _ => CX0) (sp := fun w => spLawY (K w.params)) hn (by decide) hdf ⟨rfl, by decide, by decide⟩ hY F (fun _ _ a ns hl _ hS => ⟨a, ns, rfl, hS, hl, fun _ => rfl⟩) fun _ _ _ _ _ z => z
end Pw
open PySem PySem.W PyProof.Rows
set_option maxRecDepth 100000 in
set_option maxHeartbeats 0 in
theorem PySem.Challenge.cw_pagewake_k10_rows_and_their_names_holds : PySem.Challenge.rw_pagewake_k10_rows_and_their_names.Holds := by
  w_on; o_law; k_head; (case hw => w_witness2)
  k_fill
  refine Pw.walk (l := PySem.Challenge.rw_pagewake_k10_rows_and_their_names) rfl rfl (fun w h Y => PySem.W.kIn_of Y) ?F
  case F =>
    intro w mg fa h KX G hmg
    refine' Pw.all_mk KX G hmg ?qaV ?qlV ?qcV ?qkV ?qaH ?qlH ?qcH ?qkH ?qaI ?qlI ?qcI ?qkI ?qaDo ?qlDo ?qcDo ?qkDo ?qaDp ?qlDp ?qcDp ?qkDp ?qaDd ?qlDd ?qcDd ?qkDd ?qaDw ?qlDw ?qcDw ?qkDw ?qaDk ?qlDk ?qcDk ?qkDk ?qaC ?qlC ?qcC ?qkC ?qaD ?qlD ?qcD ?qkD ?qaR ?qlR ?qcR ?qkR ?qaS ?qlS ?qcS ?qkS ?qaE ?qlE ?qcE ?qkE ?qaK ?qlK ?qcK ?qkK ?qaT ?qlT ?qcT ?qkT ?qaN ?qlN ?qcN ?qkN ?qaA ?qlA ?qcA ?qkA ?qaP ?qlP ?qcP ?qkP ?qaB ?qlB ?qcB ?qkB ?qaLv ?qlLv ?qcLv ?qkLv ?qaLl ?qlLl ?qcLl ?qkLl ?qaw ?qlw ?qcw ?qkw ?qz_len ?qz_range ?qz_int ?qz_isinstance ?qz_tuple ?qz_bool ?qz_str ?qz_list ?qz_max ?qz_enumerate ?qy_VALUES ?qy_REPEATS
    (case qaV => k_is)
    (case qlV => k_is)
    (case qcV => k_is)
    (case qkV => k_is)
    (case qaH => k_is)
    (case qlH => k_is)
    (case qcH => k_is)
    (case qkH => k_is)
    (case qaI => k_is)
    (case qlI => k_is)
    (case qcI => k_is)
    (case qkI => k_is)
    (case qaDo => k_is)
    (case qlDo => k_is)
    (case qcDo => k_is)
    (case qkDo => k_is)
    (case qaDp => k_is)
    (case qlDp => k_is)
    (case qcDp => k_is)
    (case qkDp => k_is)
    (case qaDd => k_is)
    (case qlDd => k_is)
    (case qcDd => k_is)
    (case qkDd => k_is)
    (case qaDw => k_is)
    (case qlDw => k_is)
    (case qcDw => k_is)
    (case qkDw => k_is)
    (case qaDk => k_is)
    (case qlDk => k_is)
    (case qcDk => k_is)
    (case qkDk => k_is)
    (case qaC => k_is)
    (case qlC => k_is)
    (case qcC => k_is)
    (case qkC => k_is)
    (case qaD => k_is)
    (case qlD => k_is)
    (case qcD => k_is)
    (case qkD => k_is)
    (case qaR => k_is)
    (case qlR => k_is)
    (case qcR => k_is)
    (case qkR => k_is)
    (case qaS => k_is)
    (case qlS => k_is)
    (case qcS => k_is)
    (case qkS => k_is)
    (case qaE => k_is)
    (case qlE => k_is)
    (case qcE => k_is)
    (case qkE => k_is)
    (case qaK => k_is)
    (case qlK => k_is)
    (case qcK => k_is)
    (case qkK => k_is)
    (case qaT => k_is)
    (case qlT => k_is)
    (case qcT => k_is)
    (case qkT => k_is)
    (case qaN => k_is)
    (case qlN => k_is)
    (case qcN => k_is)
    (case qkN => k_is)
    (case qaA => k_is)
    (case qlA => k_is)
    (case qcA => k_is)
    (case qkA => k_is)
    (case qaP => k_is)
    (case qlP => k_is)
    (case qcP => k_is)
    (case qkP => k_is)
    (case qaB => k_is)
    (case qlB => k_is)
    (case qcB => k_is)
    (case qkB => k_is)
    (case qaLv => k_is)
    (case qlLv => k_is)
    (case qcLv => k_is)
    (case qkLv => k_is)
    (case qaLl => k_is)
    (case qlLl => k_is)
    (case qcLl => k_is)
    (case qkLl => k_is)
    (case qaw => k_is)
    (case qlw => k_is)
    (case qcw => k_is)
    (case qkw => k_is)
    (case qz_len => k_is)
    (case qz_range => k_is)
    (case qz_int => k_is)
    (case qz_isinstance => k_is)
    (case qz_tuple => k_is)
    (case qz_bool => k_is)
    (case qz_str => k_is)
    (case qz_list => k_is)
    (case qz_max => k_is)
    (case qz_enumerate => k_is)
    (case qy_VALUES => k_is)
    (case qy_REPEATS => k_is)
