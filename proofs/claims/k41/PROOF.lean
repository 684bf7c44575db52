import PyProof.Rows.All
import Wide.All
import OpenK.AllK
import Wide.FinOn
import HandS.Call
import PyProof.Rows.MatchSeqLen
import HandS.ForMost
import HandS.IsInst
import HandS.Conv
import HandS.TupAny
import KE.KeyNested
import KE.KDictKeyed
import HandS.Deep
import KE.KTup
import HandS.Rev
import HandS.DictComp
import KE.KDictCopyH
import HandS.SetFor
import HandS.Strs
import KE.GoesEnum
import PySem.Challenge.RW_pagewake_k41_numbers_of_paths
set_option Elab.async false
set_option linter.all false
set_option maxRecDepth 100000
set_option maxHeartbeats 4000000
namespace Pw
open PySem PySem.Spec PyProof.Rows L2

/-- what a pattern binds: the slot, the value -/
abbrev Bnd := List (Nat × V)
def BndOk (X : Cx) (p : Nat × V) (q : Str × Value) : Prop := X.N[p.1]? = some q.1 ∧ X.env.scope.names.lookup q.1 = some .local ∧ RelV p.2 q.2
def RelB (X : Cx) : Option Bnd → Option (List (Str × Value)) → Prop
  | none, none => True
  | some bs, some us => Paired (BndOk X) bs us
  | _, _ => False
abbrev TPat := V → Hp → (Option Bnd → Prop) → Prop
abbrev TPats := List V → Hp → (Option Bnd → Prop) → Prop
structure PPat (X : Cx) (p : Pattern) (t : TPat) : Prop where
  run : ∀ (pins : List (Addr × Obj)) (s : Shared) (σ : L2.St) (H : Hp) (v : V) (u : Value) (Q : Option Bnd → Prop), Inv X pins σ H s → RelV v u → t v H Q →
    wpAny (model X.prog X.w) X.A (matchPattern p X.env u) (fun r s' => ∃ b, Inv X pins σ H s' ∧ RelB X b r ∧ Q b) X.xe s
structure PPats (X : Cx) (ps : List Pattern) (t : TPats) : Prop where
  run : ∀ (pins : List (Addr × Obj)) (s : Shared) (σ : L2.St) (H : Hp) (vs : List V) (us : List Value) (Q : Option Bnd → Prop), Inv X pins σ H s → Vals vs us → t vs H Q →
    wpAny (model X.prog X.w) X.A (matchEach ps X.env us) (fun r s' => ∃ b, Inv X pins σ H s' ∧ RelB X b r ∧ Q b) X.xe s
theorem Paired.appendP {α β : Type} {F : α → β → Prop} : ∀ {a : List α} {b : List β} {c : List α} {d : List β}, Paired F a b → Paired F c d → Paired F (a ++ c) (b ++ d)
  | _, _, _, _, .nil, q => q
  | _, _, _, _, .cons r t, q => .cons r (Paired.appendP t q)
section
variable {X : Cx}
def tPName (i : Nat) : TPat := fun v _ Q => Q (some [(i, v)])
theorem pp_name (i : Nat) {x : Str} {pos : Pos} (hN : X.N[i]? = some x := by rfl) (hx : X.env.scope.names.lookup x = some .local := by rfl) : PPat X (.MatchAs none (some x) pos) (tPName i) := by
  refine ⟨fun pins s σ H v u Q I r h => ?_⟩
  exact wpAny_matchPattern_Capture ⟨some [(i, v)], I, (show Paired (BndOk X) [(i, v)] [(x, u)] from .cons ⟨hN, hx, r⟩ .nil), h⟩
def tPAny : TPat := fun _ _ Q => Q (some [])
theorem pp_any {pos : Pos} : PPat X (.MatchAs none none pos) tPAny := by
  refine ⟨fun pins s σ H v u Q I r h => ?_⟩
  exact wpAny_matchPattern_Capture ⟨some [], I, (show Paired (BndOk X) [] [] from .nil), h⟩
/-- a written text -/
def tPStr (x : Str) : TPat := fun v _ Q => ∃ z, v = .str z ∧ Q (if z = x then some [] else none)
theorem pp_str {x : Str} {j : Nat} {p1 pos : Pos} : PPat X (.MatchValue (.Constant (.str x) j p1) pos) (tPStr x) := by
  refine ⟨fun pins s σ H v u Q I r h => ?_⟩
  obtain ⟨z, rfl, q⟩ := h
  obtain ⟨t, rfl⟩ := r
  refine wpAny_matchPattern_Value (Calls.Constant_str (PyProof.Rows.eq_str (wpAny_truthy_bool ?_)))
  have I' := I.tok (s.toks + 1)
  by_cases e : z = x
  · subst e
    have e2 : (z == z) = true := by simp
    rw [if_pos e2]
    rw [if_pos rfl] at q
    exact ⟨some [], I', (show Paired (BndOk X) [] [] from .nil), q⟩
  · have e2 : ¬ (z == x) = true := fun h => e (by simpa using h)
    rw [if_neg e2]
    rw [if_neg e] at q
    exact ⟨none, I', trivial, q⟩
def tPNil : TPats := fun _ _ Q => Q (some [])
theorem pps_nil' : PPats X [] tPNil := ⟨fun pins s σ H vs us Q I r h => wpAny_matchEach_nil ⟨some [], I, (show Paired (BndOk X) [] [] from .nil), h⟩⟩
def tPCons (t : TPat) (u : TPats) : TPats := fun vs H Q => ∃ v r, vs = v :: r ∧ t v H fun b => match b with
  | none => Q none
  | some bs => u r H fun c => match c with
    | none => Q none
    | some cs => Q (some (bs ++ cs))
theorem pps_cons' {p : Pattern} {ps : List Pattern} {t : TPat} {u : TPats} (h1 : PPat X p t) (h2 : PPats X ps u) (hp : p.isStar = false := by rfl) : PPats X (p :: ps) (tPCons t u) := by
  refine ⟨fun pins s σ H vs us Q I r h => ?_⟩
  obtain ⟨v, w, rfl, h⟩ := h
  cases r with
  | cons r rr =>
    refine wpAny_matchEach_cons (thn (h1.run pins s σ H _ _ _ I r h) fun a s1 ⟨b, I1, rb, q⟩ => ?_) hp
    cases b with
    | none =>
      cases a with
      | none => exact ⟨none, I1, trivial, q⟩
      | some us => exact rb.elim
    | some bs =>
      cases a with
      | none => exact rb.elim
      | some us =>
        refine thn (h2.run pins s1 σ H _ _ _ I1 rr q) fun a2 s2 ⟨c, I2, rc, q2⟩ => ?_
        cases c with
        | none =>
          cases a2 with
          | none => exact ⟨none, I2, trivial, q2⟩
          | some _ => exact rc.elim
        | some cs =>
          cases a2 with
          | none => exact rc.elim
          | some ws => exact ⟨some (bs ++ cs), I2, Paired.appendP rb rc, q2⟩
/-- a sequence pattern at a tuple -/
def tPSeq (K : PySem.W.Frag) (n : Nat) (t : TPats) : TPat := fun v H Q => ∃ a xs, v = .ref a ∧ SqT K H a xs ∧ if xs.length = n then t xs H Q else Q none
theorem pp_seq {ps : List Pattern} {pos : Pos} {t : TPats} {n : Nat} (hc : X.calm = true) (h : PPats X ps t) (hn : ps.length = n := by rfl) (hstar : ps.findIdx? (·.isStar) = none := by rfl)
    (hwild : (ps.all fun p => p.isWildcard || (p.isStar && p.names.isEmpty)) = false := by rfl) : PPat X (.MatchSequence ps pos) (tPSeq X.K n t) := by
  refine ⟨fun pins s σ H v u Q I r hw => ?_⟩
  obtain ⟨a, xs, rfl, hq, hw⟩ := hw
  obtain rfl : u = Value.ref a := r
  obtain ⟨its, rv, ht, hz⟩ := I.tuple hq
  have el := rv.length
  have hfit : ((its.toArray.size : Nat) : Int) < 2 ^ 63 := by
    have hs : sizeLine ≤ 2 ^ 62 := by decide
    simp only [List.size_toArray]
    omega
  by_cases e : xs.length = n
  · rw [if_pos e] at hw
    have e2 : its.toArray.size = ps.length := by simp only [List.size_toArray]; omega
    refine matchSeq_tuple_hit ht hfit e2 ?_ hstar hwild
    rw [← e2]
    refine unpackItems_tuple (I.ok.hd hc) (by exact ht) fun h' hx => ?_
    have I1 : Inv X pins σ H { s with heap := h', toks := s.toks + 1 + 1 } := I.kept fun b o q => hx b o (Nat.ne_of_lt (Heap.lt_size q)) q
    exact h.run pins _ σ H xs _ Q I1 (by simpa using rv) hw
  · rw [if_neg e] at hw
    have e2 : its.toArray.size ≠ ps.length := by simp only [List.size_toArray]; omega
    exact matchSeq_tuple_miss ht hfit e2 ⟨none, I.tok _, trivial, hw⟩ hstar hwild
/-! ### cases -/
abbrev TCs := V → Ends → L2.St → Hp → Prop
structure PCs (X : Cx) (cs : List MatchCase) (t : TCs) : Prop where
  run : ∀ (first : Bool) (pins : List (Addr × Obj)) (s : Shared) (σ : L2.St) (H : Hp) (D : Ends) (v : V) (u : Value), Inv X pins σ H s → RelV v u → t v D σ H →
    wpAny (model X.prog X.w) X.A (matchCases cs X.env u first) (SP X pins D) X.xe s
def setAll (σ : L2.St) : Bnd → L2.St
  | [] => σ
  | p :: r => setAll (σ.set p.1 (some p.2)) r
def tCsNil : TCs := fun _ D σ H => D.nx σ H
theorem pcs_nil : PCs X [] tCsNil := ⟨fun _ pins s σ H D v u I r h => wpAny_matchCases_nil ⟨σ, H, I, h⟩⟩
def tCase (t : TPat) (tb : TS) (tr : TCs) : TCs := fun v D σ H => t v H fun b => match b with
  | none => tr v D σ H
  | some bs => tb D (setAll σ bs) H
theorem assign_bnd (hN : X.N.Nodup) : ∀ {bs : Bnd} {us : List (Str × Value)} {pins : List (Addr × Obj)} {s : Shared} {σ : L2.St} {H : Hp} {Q : Unit → Shared → Prop}, Paired (BndOk X) bs us → Inv X pins σ H s → (∀ s', Inv X pins (setAll σ bs) H s' → Q () s') →
    wpAny (model X.prog X.w) X.A (assignInOrder (us.map fun (n, _) => bindName X.env n) (us.map (·.2))) Q X.xe s
  | _, _, _, s, _, _, _, .nil, I, h => assignInOrder_nil (h s I)
  | p :: bs, q :: us, pins, s, σ, H, Q, .cons r t, I, h => by
    obtain ⟨h1, h2, h3⟩ := r
    exact assignInOrder_cons (wpAny_bindName (store_ok I hN h1 (.inl h2) h3 (fun s' I' => assign_bnd hN t I' fun s2 I2 => h s2 I2) (.inr h2)))
theorem pcs_cons {p : Pattern} {body : List Stmt} {rest : List MatchCase} {t : TPat} {tb : TS} {tr : TCs} (hN : X.N.Nodup) (hp : PPat X p t) (hb : PSs X body tb) (hr : PCs X rest tr) : PCs X (⟨p, none, body⟩ :: rest) (tCase t tb tr) := by
  refine ⟨fun first pins s σ H D v u I r h => ?_⟩
  refine wpAny_matchCases_cons (thn (hp.run pins s σ H v u _ I r h) fun a s1 ⟨b, I1, rb, q⟩ => ?_)
  cases b with
  | none =>
    cases a with
    | none => exact hr.run false pins s1 σ H D v u I1 r q
    | some _ => exact rb.elim
  | some bs =>
    cases a with
    | none => exact rb.elim
    | some us => exact assign_bnd hN rb I1 fun s2 I2 => hb.run pins s2 _ H D I2 q
def tMatch (te : TE) (tc : TCs) : TS := fun D σ H => te σ H fun x H1 => tc x D σ H1
theorem ps_match {e : Expr} {cs : List MatchCase} {pos : Pos} {te : TE} {tc : TCs} (he : PE X e te) (hc : PCs X cs tc) : PS X (.Match e cs pos) (tMatch te tc) := by
  refine ⟨fun pins s σ H D I h => ?_⟩
  exact wpAny_Match (thn (he.run pins s σ H _ I h) fun v s1 ⟨x, H1, I1, r1, q1⟩ => hc.run true pins s1 σ H1 D x v I1 r1 q1)
end
end Pw
namespace Pw
open PySem PySem.Spec PyProof.Rows L2
/-! ### heaps -/
/-- all but S is as it was; tuples never change -/
structure Oth (S : List Addr) (H H' : Hp) : Prop where
  keep : ∀ a o, a ∉ S → H a = some o → H' a = some o
  tup : ∀ a xs, H a = some (.tup xs) → H' a = some (.tup xs)
section
variable {S S' : List Addr} {H H' H2 : Hp} {p b : Addr} {o : HO} {xs : List V}
theorem Oth.refl : Oth S H H := ⟨fun _ _ _ h => h, fun _ _ h => h⟩
theorem Oth.trans (x : Oth S H H') (y : Oth S H' H2) : Oth S H H2 := ⟨fun a o n h => y.keep a o n (x.keep a o n h), fun a xs h => y.tup a xs (x.tup a xs h)⟩
theorem Oth.new (h : H p = none) : Oth S H (upd H p o) := ⟨fun a o' _ q => by rw [upd_ne (ne_of_none q h)]; exact q, fun a xs q => by rw [upd_ne (ne_of_none q h)]; exact q⟩
theorem Oth.put (hb : b ∈ S) (h : H b = some (.lst xs)) : Oth S H (upd H b o) :=
  ⟨fun a o' n q => by rw [upd_ne (fun e => n (by rw [e]; exact hb))]; exact q, fun a xs q => by rw [upd_ne (ne_of q h (by intro z; cases z))]; exact q⟩
theorem Oth.mono (x : Oth S H H') (h : ∀ a ∈ S, a ∈ S') : Oth S' H H' := ⟨fun a o n => x.keep a o fun z => n (h a z), x.tup⟩
/-- what was not there may be forgotten -/
theorem Oth.drop (x : Oth (p :: S) H H') (h : H p = none) : Oth S H H' :=
  ⟨fun a o n q => x.keep a o (fun z => (List.mem_cons.mp z).elim (fun e => by rw [e, h] at q; cases q) n) q, x.tup⟩
theorem Oth.drop2 (x : Oth (b :: p :: S) H H') (h : H p = none) : Oth (b :: S) H H' :=
  Oth.drop (p := p) (x.mono fun a z => by simp only [List.mem_cons] at z ⊢; rcases z with z | z | z <;> simp [z]) h
theorem Oth.ne (x : Oth S H H') (h : H' p = none) (hb : b ∉ S) (q : H b = some o) : b ≠ p := ne_of_none (x.keep b o hb q) h
theorem Oth.lst (x : Oth S H H') (hb : b ∉ S) (q : H b = some (.lst xs)) : H' b = some (.lst xs) := x.keep b _ hb q
theorem Oth.sqT {K : PySem.W.Frag} (x : Oth S H H') (h : H b = some (.tup xs)) : SqT K H' b xs := SqT.of (x.tup b xs h)
end
/-! ### data that never change -/
inductive T where
  | non | bl (b : Bool) | int (i : Int) | str (s : Str) | tup (ts : List T)
inductive IsT (H : Hp) : T → V → Prop
  | non : IsT H .non .non
  | bl (b : Bool) : IsT H (.bl b) (.bl b)
  | int (i : Int) : IsT H (.int i) (.int i)
  | str (s : Str) : IsT H (.str s) (.str s)
  | tup {a : Addr} {xs : List V} {ts : List T} : H a = some (.tup xs) → xs.length = ts.length → (∀ (i : Nat) (t : T) (x : V), ts[i]? = some t → xs[i]? = some x → IsT H t x) → IsT H (.tup ts) (.ref a)
section
variable {H H' : Hp} {S : List Addr} {a : Addr} {xs : List V} {ts : List T} {t : T} {v : V}
theorem IsT.oth (h : IsT H t v) (o : Oth S H H') : IsT H' t v := by
  induction h with
  | non => exact .non
  | bl b => exact .bl b
  | int i => exact .int i
  | str s => exact .str s
  | tup e l _ ih => exact .tup (o.tup _ _ e) l ih
theorem paired_of : ∀ {ts : List T} {xs : List V}, xs.length = ts.length → (∀ (i : Nat) (t : T) (x : V), ts[i]? = some t → xs[i]? = some x → IsT H t x) → Paired (IsT H) ts xs
  | [], [], _, _ => .nil
  | [], _ :: _, l, _ => by cases l
  | _ :: _, [], l, _ => by cases l
  | t :: ts, x :: xs, l, h => .cons (h 0 t x rfl rfl) (paired_of (Nat.succ.inj l) fun i t' x' e1 e2 => h (i + 1) t' x' e1 e2)
theorem paired_get : ∀ {ts : List T} {xs : List V}, Paired (IsT H) ts xs → xs.length = ts.length ∧ ∀ (i : Nat) (t : T) (x : V), ts[i]? = some t → xs[i]? = some x → IsT H t x
  | _, _, .nil => ⟨rfl, fun i t x e => by simp at e⟩
  | _, _, .cons r q => by
    obtain ⟨l, h⟩ := paired_get q
    refine ⟨congrArg (· + 1) l, fun i t x e1 e2 => ?_⟩
    cases i with
    | zero => cases e1; cases e2; exact r
    | succ i => exact h i t x e1 e2
theorem IsT.inv (h : IsT H (.tup ts) v) : ∃ a xs, v = .ref a ∧ H a = some (.tup xs) ∧ Paired (IsT H) ts xs := by
  cases h with
  | tup e l q => exact ⟨_, _, rfl, e, paired_of l q⟩
theorem IsT.mk (e : H a = some (.tup xs)) (q : Paired (IsT H) ts xs) : IsT H (.tup ts) (.ref a) := .tup e (paired_get q).1 (paired_get q).2
theorem paired_oth : ∀ {ts : List T} {xs : List V}, Paired (IsT H) ts xs → Oth S H H' → Paired (IsT H') ts xs
  | _, _, .nil, _ => .nil
  | _, _, .cons r q, o => .cons (r.oth o) (paired_oth q o)
theorem paired_app {us : List T} {ys : List V} (p : Paired (IsT H) ts xs) (q : Paired (IsT H) us ys) : Paired (IsT H) (ts ++ us) (xs ++ ys) := Paired.appendP p q
theorem paired_int : ∀ {ns : List Int} {xs : List V}, Paired (IsT H) (ns.map T.int) xs → xs = ns.map V.int
  | [], _, .nil => rfl
  | n :: ns, _, .cons r q => by
    cases r
    rw [paired_int q]
    rfl
theorem int_paired : ∀ (ns : List Int), Paired (IsT H) (ns.map T.int) (ns.map V.int)
  | [] => .nil
  | n :: ns => .cons (.int n) (int_paired ns)
theorem IsT.ints {ns : List Int} (h : IsT H (.tup (ns.map T.int)) v) : ∃ a, v = .ref a ∧ H a = some (.tup (ns.map V.int)) := by
  obtain ⟨a, xs, rfl, e, p⟩ := h.inv
  rw [paired_int p] at e
  exact ⟨a, rfl, e⟩
theorem IsT.of_int {i : Int} (h : IsT H (.int i) v) : v = .int i := by cases h; rfl
theorem IsT.of_str {s : Str} (h : IsT H (.str s) v) : v = .str s := by cases h; rfl
theorem IsT.of_non (h : IsT H .non v) : v = .non := by cases h; rfl
theorem IsT.inv1 {t1 : T} (h : IsT H (.tup [t1]) v) : ∃ a x1, v = .ref a ∧ H a = some (.tup [x1]) ∧ IsT H t1 x1 := by
  obtain ⟨a, xs, rfl, e, p⟩ := h.inv
  cases p with | cons p1 p => cases p; exact ⟨a, _, rfl, e, p1⟩
theorem IsT.inv2 {t1 t2 : T} (h : IsT H (.tup [t1, t2]) v) : ∃ a x1 x2, v = .ref a ∧ H a = some (.tup [x1, x2]) ∧ IsT H t1 x1 ∧ IsT H t2 x2 := by
  obtain ⟨a, xs, rfl, e, p⟩ := h.inv
  cases p with | cons p1 p => cases p with | cons p2 p => cases p; exact ⟨a, _, _, rfl, e, p1, p2⟩
theorem IsT.inv3 {t1 t2 t3 : T} (h : IsT H (.tup [t1, t2, t3]) v) : ∃ a x1 x2 x3, v = .ref a ∧ H a = some (.tup [x1, x2, x3]) ∧ IsT H t1 x1 ∧ IsT H t2 x2 ∧ IsT H t3 x3 := by
  obtain ⟨a, xs, rfl, e, p⟩ := h.inv
  cases p with | cons p1 p => cases p with | cons p2 p => cases p with | cons p3 p => cases p; exact ⟨a, _, _, _, rfl, e, p1, p2, p3⟩
theorem IsT.inv4 {t1 t2 t3 t4 : T} (h : IsT H (.tup [t1, t2, t3, t4]) v) : ∃ a x1 x2 x3 x4, v = .ref a ∧ H a = some (.tup [x1, x2, x3, x4]) ∧ IsT H t1 x1 ∧ IsT H t2 x2 ∧ IsT H t3 x3 ∧ IsT H t4 x4 := by
  obtain ⟨a, xs, rfl, e, p⟩ := h.inv
  cases p with | cons p1 p => cases p with | cons p2 p => cases p with | cons p3 p => cases p with | cons p4 p => cases p; exact ⟨a, _, _, _, _, rfl, e, p1, p2, p3, p4⟩
theorem IsT.inv5 {t1 t2 t3 t4 t5 : T} (h : IsT H (.tup [t1, t2, t3, t4, t5]) v) : ∃ a x1 x2 x3 x4 x5, v = .ref a ∧ H a = some (.tup [x1, x2, x3, x4, x5]) ∧ IsT H t1 x1 ∧ IsT H t2 x2 ∧ IsT H t3 x3 ∧ IsT H t4 x4 ∧ IsT H t5 x5 := by
  obtain ⟨a, xs, rfl, e, p⟩ := h.inv
  cases p with | cons p1 p => cases p with | cons p2 p => cases p with | cons p3 p => cases p with | cons p4 p => cases p with | cons p5 p => cases p; exact ⟨a, _, _, _, _, _, rfl, e, p1, p2, p3, p4, p5⟩
theorem IsT.mk1 {t1 : T} {x1 : V} (e : H a = some (.tup [x1])) (p1 : IsT H t1 x1) : IsT H (.tup [t1]) (.ref a) := .mk e (.cons p1 .nil)
theorem IsT.mk2 {t1 t2 : T} {x1 x2 : V} (e : H a = some (.tup [x1, x2])) (p1 : IsT H t1 x1) (p2 : IsT H t2 x2) : IsT H (.tup [t1, t2]) (.ref a) := .mk e (.cons p1 (.cons p2 .nil))
theorem IsT.mk3 {t1 t2 t3 : T} {x1 x2 x3 : V} (e : H a = some (.tup [x1, x2, x3])) (p1 : IsT H t1 x1) (p2 : IsT H t2 x2) (p3 : IsT H t3 x3) : IsT H (.tup [t1, t2, t3]) (.ref a) := .mk e (.cons p1 (.cons p2 (.cons p3 .nil)))
theorem IsT.mk4 {t1 t2 t3 t4 : T} {x1 x2 x3 x4 : V} (e : H a = some (.tup [x1, x2, x3, x4])) (p1 : IsT H t1 x1) (p2 : IsT H t2 x2) (p3 : IsT H t3 x3) (p4 : IsT H t4 x4) : IsT H (.tup [t1, t2, t3, t4]) (.ref a) := .mk e (.cons p1 (.cons p2 (.cons p3 (.cons p4 .nil))))
theorem IsT.mk5 {t1 t2 t3 t4 t5 : T} {x1 x2 x3 x4 x5 : V} (e : H a = some (.tup [x1, x2, x3, x4, x5])) (p1 : IsT H t1 x1) (p2 : IsT H t2 x2) (p3 : IsT H t3 x3) (p4 : IsT H t4 x4) (p5 : IsT H t5 x5) : IsT H (.tup [t1, t2, t3, t4, t5]) (.ref a) := .mk e (.cons p1 (.cons p2 (.cons p3 (.cons p4 (.cons p5 .nil)))))
end
/-! ### ways that meet behind a statement -/
section
variable {X : Cx} {st : Stmt} {rest : List Stmt} {t u : TS}
def tCut (t u : TS) : TS := fun D σ H => ∃ Mid : L2.St → Hp → Prop, t { D with nx := Mid } σ H ∧ ∀ σ' H', Mid σ' H' → u D σ' H'
theorem pss_cut (h1 : PS X st t) (h2 : PSs X rest u) : PSs X (st :: rest) (tCut t u) := by
  refine ⟨fun pins s σ H D I h => ?_⟩
  obtain ⟨Mid, h, hm⟩ := h
  refine wpAny_execs_cons (thn (h1.run pins s σ H { D with nx := Mid } I h) fun f s1 q => ?_)
  cases f with
  | next =>
    obtain ⟨σ', H', I', q⟩ := q
    exact h2.run pins s1 σ' H' D I' (hm _ _ q)
  | ret v => exact q
  | brk => exact q
  | cont => exact q
end
theorem Oth.sqL {K : PySem.W.Frag} {H H' : Hp} {S : List Addr} {a : Addr} {xs : List V} (x : Oth S H H') (n : a ∉ S) (h : SqL K H a xs) : SqL K H' a xs := by
  rcases h with (h | ⟨o, h⟩) | h
  · exact .inl (.inl (x.keep _ _ n h))
  · exact .inl (.inr ⟨o, x.keep _ _ n h⟩)
  · exact .inr h
/-! ### cases of a match -/
section
variable {K : PySem.W.Frag} {H : Hp} {a : Addr} {n : Nat} {z x : Str} {r : List V} {u : TPats} {tb : TS} {tr : TCs} {D : Ends} {σ : L2.St}
theorem case_skip (h : SqT K H a (.str z :: r)) (hz : z ≠ x) (q : tr (.ref a) D σ H) : tCase (tPSeq K n (tPCons (tPStr x) u)) tb tr (.ref a) D σ H := by
  refine ⟨a, _, rfl, h, ?_⟩
  by_cases e : (V.str z :: r).length = n
  · rw [if_pos e]
    refine ⟨_, _, rfl, z, rfl, ?_⟩
    rw [if_neg hz]
    exact q
  · rw [if_neg e]
    exact q
theorem case_len (h : SqT K H a r) (hz : r.length ≠ n) (q : tr (.ref a) D σ H) : tCase (tPSeq K n u) tb tr (.ref a) D σ H := by
  refine ⟨a, _, rfl, h, ?_⟩
  rw [if_neg hz]
  exact q
theorem case_hit (h : SqT K H a (.str x :: r)) (hl : r.length + 1 = n) (q : u r H fun c => match c with
    | none => tr (.ref a) D σ H
    | some bs => tb D (setAll σ bs) H) : tCase (tPSeq K n (tPCons (tPStr x) u)) tb tr (.ref a) D σ H := by
  refine ⟨a, _, rfl, h, ?_⟩
  rw [if_pos (show (V.str x :: r).length = n from hl)]
  refine ⟨_, _, rfl, x, rfl, ?_⟩
  rw [if_pos rfl]
  exact q
end
end Pw
namespace Pw
open PySem PySem.Spec PyProof.Rows L2
/-! ### expressions -/
inductive E where
  | num (n : Int) | cell (i : Nat) | prop (i : Nat) | store (i : Nat) | index
  | plus (a b : E) | minus (a b : E) | same (a b : E) | less (a b : E) | ite (c a b : E)
def E.toT : E → T
  | .num n => .tup [.str "num", .int n]
  | .cell i => .tup [.str "cell", .int (i : Int)]
  | .prop i => .tup [.str "prop", .int (i : Int)]
  | .store i => .tup [.str "store", .int (i : Int)]
  | .index => .tup [.str "index"]
  | .plus a b => .tup [.str "plus", a.toT, b.toT]
  | .minus a b => .tup [.str "minus", a.toT, b.toT]
  | .same a b => .tup [.str "same", a.toT, b.toT]
  | .less a b => .tup [.str "less", a.toT, b.toT]
  | .ite c a b => .tup [.str "if", c.toT, a.toT, b.toT]
def E.depth : E → Nat
  | .plus a b | .minus a b | .same a b | .less a b => max a.depth b.depth + 1
  | .ite c a b => max c.depth (max a.depth b.depth) + 1
  | _ => 0
def E.size : E → Nat
  | .plus a b | .minus a b | .same a b | .less a b => a.size + b.size
  | .ite c a b => c.size + a.size + b.size
  | _ => 1
structure Sc where
  cells : List Int
  props : List Int
  store : List Int
  index : Int
def Sc.toT (c : Sc) : T := .tup [.str "scope", .tup (c.cells.map .int), .tup (c.props.map .int), .tup (c.store.map .int), .int c.index]
def E.val (c : Sc) : E → Int
  | .num n => n
  | .cell i => c.cells.getD i 0
  | .prop i => c.props.getD i 0
  | .store i => c.store.getD i 0
  | .index => c.index
  | .plus a b => (a.val c + b.val c) % 1000
  | .minus a b => (a.val c - b.val c) % 1000
  | .same a b => if a.val c = b.val c then 1 else 0
  | .less a b => if a.val c < b.val c then 1 else 0
  | .ite q a b => if q.val c = 0 then b.val c else a.val c
def E.looks (c : Sc) : E → List Int
  | .store i => if i < c.store.length then [(i : Int)] else []
  | .plus a b | .minus a b | .same a b | .less a b => a.looks c ++ b.looks c
  | .ite q a b => q.looks c ++ if q.val c = 0 then b.looks c else a.looks c
  | _ => []
theorem E.size_pos : ∀ e : E, 1 ≤ e.size
  | .plus a b | .minus a b | .same a b | .less a b => by have := E.size_pos a; simp only [E.size]; omega
  | .ite q a b => by have := E.size_pos q; simp only [E.size]; omega
  | .num _ | .cell _ | .prop _ | .store _ | .index => by simp [E.size]
theorem E.looks_le (c : Sc) : ∀ e : E, (e.looks c).length ≤ e.size
  | .plus a b | .minus a b | .same a b | .less a b => by
    have h1 := E.looks_le c a
    have h2 := E.looks_le c b
    simp only [E.looks, E.size, List.length_append]
    omega
  | .ite q a b => by
    have h0 := E.looks_le c q
    have h1 := E.looks_le c a
    have h2 := E.looks_le c b
    simp only [E.looks, E.size, List.length_append]
    split <;> omega
  | .store i => by
    simp only [E.looks, E.size]
    split <;> simp
  | .num _ | .cell _ | .prop _ | .index => by simp [E.looks]
theorem getD_of {xs : List Int} {i : Nat} (h : i < xs.length) : (xs.map V.int)[i]? = some (.int (xs.getD i 0)) := by
  rw [List.getElem?_map, List.getElem?_eq_getElem h, List.getD_eq_getElem?_getD, List.getElem?_eq_getElem h]
  rfl
theorem getD_out {xs : List Int} {i : Nat} (h : ¬ i < xs.length) : xs.getD i 0 = 0 := by
  rw [List.getD_eq_getElem?_getD, List.getElem?_eq_none (by omega)]
  rfl
/-! ### what the defs promise -/
def spThere (K : PySem.W.Frag) : Sp := fun vs H Q _ => ∃ (a : Addr) (xs : List Int) (i : Nat), vs = [.ref a, .int (i : Int)] ∧ SqT K H a (xs.map V.int) ∧ Q (.bl (decide (i < xs.length))) H
def spItem (K : PySem.W.Frag) : Sp := fun vs H Q _ => ∃ (a : Addr) (xs : List Int) (i : Nat), vs = [.ref a, .int (i : Int)] ∧ SqT K H a (xs.map V.int) ∧ Q (.int (xs.getD i 0)) H
def spValue (n : Nat) : Sp := fun vs H Q _ => ∃ (e : E) (c : Sc) (ve vc : V) (l : Addr) (L : List V), vs = [ve, vc, .ref l] ∧ IsT H e.toT ve ∧ IsT H c.toT vc ∧ H l = some (.lst L) ∧ e.depth < n ∧ L.length + e.size ≤ 100000 ∧
  ∀ H', H' l = some (.lst (L ++ (e.looks c).map V.int)) → Oth [l] H H' → Q (.int (e.val c)) H'
end Pw
namespace Pw
open PySem PySem.Spec PyProof.Rows L2
theorem bo_int : bootBuiltins "int" = some (.type "int") := by decide +kernel
theorem bo_isi : bootBuiltins "isinstance" = some (.builtin "isinstance") := by decide +kernel
theorem bo_tuple : bootBuiltins "tuple" = some (.type "tuple") := by decide +kernel
theorem bo_bool : bootBuiltins "bool" = some (.type "bool") := by decide +kernel
theorem bo_str : bootBuiltins "str" = some (.type "str") := by decide +kernel
/-! ### what the law's own helpers promise -/
def spCell' (K : PySem.W.Frag) : Sp := fun vs H Q _ => ∃ (a : Addr) (ns : List Int) (j : Nat), vs = [.ref a, .int (j : Int)] ∧ SqL K H a (ns.map V.int) ∧ ∀ x : Int, Q (.int x) H
def spDigits (K : PySem.W.Frag) : Sp := fun vs H Q _ => ∃ (a : Addr) (ns : List Int) (i j : Nat), vs = [.ref a, .int (i : Int), .int (j : Int)] ∧ SqL K H a (ns.map V.int) ∧ i ≤ 100 ∧ j ≤ 100 ∧
  ∀ (p : Addr) (H' : Hp) (ds : List Int), H p = none → Oth [] H H' → H' p = some (.lst (ds.map V.int)) → Q (.ref p) H'
/-- the law's box: its digits, how many are drawn, what else stands in it -/
def Box (H : Hp) (b d : Addr) (rest : List V) : Prop := ∃ (ds : List Int) (at' : Nat), H b = some (.lst (.ref d :: .int (at' : Int) :: rest)) ∧ H d = some (.lst (ds.map V.int))
def spDraw : Sp := fun vs H Q _ => ∃ (b d : Addr) (m : Int) (rest : List V), vs = [.ref b, .int m] ∧ 0 < m ∧ Box H b d rest ∧
  ∀ (r : Int) (H' : Hp), 0 ≤ r → r < m → Box H' b d rest → Oth [b] H H' → Q (.int r) H'
theorem Box.new {H : Hp} {b d p : Addr} {rest : List V} {o : HO} (h : Box H b d rest) (n : H p = none) : Box (upd H p o) b d rest := by
  obtain ⟨ds, at', h1, h2⟩ := h
  exact ⟨ds, at', by rw [upd_ne (ne_of_none h1 n)]; exact h1, by rw [upd_ne (ne_of_none h2 n)]; exact h2⟩
theorem Box.put {H : Hp} {b d p : Addr} {rest : List V} {o : HO} (h : Box H b d rest) (nb : b ≠ p) (nd : d ≠ p) : Box (upd H p o) b d rest := by
  obtain ⟨ds, at', h1, h2⟩ := h
  exact ⟨ds, at', by rw [upd_ne nb]; exact h1, by rw [upd_ne nd]; exact h2⟩
theorem Box.is {H : Hp} {b d : Addr} {rest : List V} (h : Box H b d rest) : ∃ xs, H b = some (.lst xs) := by
  obtain ⟨ds, at', h1, h2⟩ := h
  exact ⟨_, h1⟩
theorem Box.nb {H : Hp} {b d p : Addr} {rest : List V} (h : Box H b d rest) (n : H p = none) : b ≠ p := by
  obtain ⟨ds, at', h1, h2⟩ := h
  exact ne_of_none h1 n
theorem Box.nd {H : Hp} {b d p : Addr} {rest : List V} (h : Box H b d rest) (n : H p = none) : d ≠ p := by
  obtain ⟨ds, at', h1, h2⟩ := h
  exact ne_of_none h2 n
theorem Box.oth {S : List Addr} {H H' : Hp} {b d : Addr} {rest : List V} (h : Box H b d rest) (o : Oth S H H') (nb : b ∉ S) (nd : d ∉ S) : Box H' b d rest := by
  obtain ⟨ds, at', h1, h2⟩ := h
  exact ⟨ds, at', o.keep _ _ nb h1, o.keep _ _ nd h2⟩
end Pw
namespace Pw
open PySem PySem.Spec PyProof.Rows L2
/-- data of at most so many levels, no row over 100,000 -/
inductive Dep : Nat → T → Prop
  | non (n : Nat) : Dep (n + 1) .non
  | int (n : Nat) (i : Int) : Dep (n + 1) (.int i)
  | str (n : Nat) (s : Str) : Dep (n + 1) (.str s)
  | tup (n : Nat) (ts : List T) : ts.length ≤ 100000 → (∀ t ∈ ts, Dep n t) → Dep (n + 1) (.tup ts)
def T.ty : T → String
  | .non => "NoneType" | .bl _ => "bool" | .int _ => "int" | .str _ => "str" | .tup _ => "tuple"
theorem IsT.ty {K : PySem.W.Frag} {H : Hp} {t : T} {v : V} (h : IsT H t v) : TyX K H v (.type t.ty) := by
  cases h with
  | non => exact .base .non
  | bl b => exact .base (.bl b)
  | int i => exact .base (.int i)
  | str s => exact .base (.str s)
  | tup e _ _ => exact .base (.tup e)
def spSame (n : Nat) : Sp := fun vs H Q _ => ∃ (t : T) (v u : V), vs = [v, u] ∧ IsT H t v ∧ IsT H t u ∧ Dep n t ∧ Q (.bl true) H
theorem Dep.mono {n m : Nat} {t : T} (h : Dep n t) (l : n ≤ m) : Dep m t := by
  induction h generalizing m with
  | non n => cases m with | zero => omega | succ m => exact .non m
  | int n i => cases m with | zero => omega | succ m => exact .int m i
  | str n s => cases m with | zero => omega | succ m => exact .str m s
  | tup n ts z _ ih => cases m with | zero => omega | succ m => exact .tup m ts z fun t ht => ih t ht (by omega)
theorem kb_NoneType_tuple : kitB "NoneType" "tuple" = some false := by decide +kernel
theorem kb_int_tuple : kitB "int" "tuple" = some false := by decide +kernel
theorem kb_int_bool : kitB "int" "bool" = some false := by decide +kernel
theorem kb_int_int : kitB "int" "int" = some true := by decide +kernel
theorem kb_str_tuple : kitB "str" "tuple" = some false := by decide +kernel
theorem kb_str_bool : kitB "str" "bool" = some false := by decide +kernel
theorem kb_str_int : kitB "str" "int" = some false := by decide +kernel
theorem kb_str_str : kitB "str" "str" = some true := by decide +kernel
theorem kb_tuple_tuple : kitB "tuple" "tuple" = some true := by decide +kernel
end Pw
namespace Pw
open PySem PySem.Spec PyProof.Rows L2
/-! ### templates -/
inductive Tp where
  | text (s : Str) | «show» (e : E)
  | box (tag : Str) (key : Option E) (action : Option Nat) (cs : List Tp)
  | when (e : E) (cs os : List Tp)
  | each (e : E) (cs : List Tp)
  | child (c : Nat) (key : Option E) (props : List E)
  | part (k : Nat) | input (tag : Str) (cell : Nat)
def keyT : Option E → T
  | none => .non
  | some e => e.toT
def actT : Option Nat → T
  | none => .non
  | some n => .int (n : Int)
mutual
def Tp.toT : Tp → T
  | .text s => .tup [.str "text", .str s]
  | .show e => .tup [.str "show", e.toT]
  | .box tag key action cs => .tup [.str "box", .str tag, keyT key, actT action, .tup (Tp.toTs cs)]
  | .when e cs os => .tup [.str "when", e.toT, .tup (Tp.toTs cs), .tup (Tp.toTs os)]
  | .each e cs => .tup [.str "each", e.toT, .tup (Tp.toTs cs)]
  | .child c key props => .tup [.str "child", .int (c : Int), keyT key, .tup (props.map E.toT)]
  | .part k => .tup [.str "part", .int (k : Int)]
  | .input tag cell => .tup [.str "input", .str tag, .int (cell : Int)]
def Tp.toTs : List Tp → List T
  | [] => []
  | t :: ts => t.toT :: Tp.toTs ts
end
mutual
def Tp.dep : Tp → Nat
  | .box _ _ _ cs | .each _ cs => Tp.deps cs + 1
  | .when _ cs os => max (Tp.deps cs) (Tp.deps os) + 1
  | _ => 0
def Tp.deps : List Tp → Nat
  | [] => 0
  | t :: ts => max t.dep (Tp.deps ts)
end
mutual
def Tp.cnt : Tp → Nat
  | .box _ _ _ cs | .each _ cs => Tp.cnts cs + 1
  | .when _ cs os => Tp.cnts cs + Tp.cnts os + 1
  | _ => 1
def Tp.cnts : List Tp → Nat
  | [] => 0
  | t :: ts => t.cnt + Tp.cnts ts
end
mutual
/-- the expressions are no deeper than 3, the props few -/
def Tp.Fine : Tp → Prop
  | .text _ | .part _ | .input _ _ => True
  | .show e => e.depth ≤ 3
  | .box _ key _ cs => (∀ e ∈ key, e.depth ≤ 3) ∧ Tp.Fines cs
  | .when e cs os => e.depth ≤ 3 ∧ Tp.Fines cs ∧ Tp.Fines os
  | .each e cs => e.depth ≤ 3 ∧ Tp.Fines cs
  | .child _ key props => (∀ e ∈ key, e.depth ≤ 3) ∧ props.length ≤ 10 ∧ ∀ e ∈ props, e.depth ≤ 3
def Tp.Fines : List Tp → Prop
  | [] => True
  | t :: ts => t.Fine ∧ Tp.Fines ts
end
/-- a template with its place and the kinds around it -/
structure Rw where
  place : List Int
  tp : Tp
  ar : List Str
mutual
def Tp.under (pl : List Int) (ar : List Str) : Tp → List Rw
  | .box _ _ _ cs => Tp.lst pl 0 (ar ++ [("box" : Str)]) cs
  | .each _ cs => Tp.lst pl 0 (ar ++ [("each" : Str)]) cs
  | .when _ cs os => Tp.lst (pl ++ [0]) 0 (ar ++ [("when" : Str)]) cs ++ Tp.lst (pl ++ [1]) 0 (ar ++ [("when" : Str)]) os
  | _ => []
def Tp.lst (pl : List Int) (k : Nat) (ar : List Str) : List Tp → List Rw
  | [] => []
  | t :: ts => ⟨pl ++ [(k : Int)], t, ar⟩ :: (t.under (pl ++ [(k : Int)]) ar ++ Tp.lst pl (k + 1) ar ts)
end
mutual
theorem Tp.under_len : ∀ (t : Tp) (pl : List Int) (ar : List Str), (t.under pl ar).length + 1 = t.cnt
  | .box _ _ _ cs, pl, ar => by simp only [Tp.under, Tp.cnt]; rw [Tp.lst_len cs]
  | .each _ cs, pl, ar => by simp only [Tp.under, Tp.cnt]; rw [Tp.lst_len cs]
  | .when _ cs os, pl, ar => by simp only [Tp.under, Tp.cnt, List.length_append]; rw [Tp.lst_len cs, Tp.lst_len os]
  | .text _, pl, ar | .show _, pl, ar | .child _ _ _, pl, ar | .part _, pl, ar | .input _ _, pl, ar => by simp [Tp.under, Tp.cnt]
theorem Tp.lst_len : ∀ (ts : List Tp) (pl : List Int) (k : Nat) (ar : List Str), (Tp.lst pl k ar ts).length = Tp.cnts ts
  | [], pl, k, ar => rfl
  | t :: ts, pl, k, ar => by
    have h := Tp.under_len t (pl ++ [(k : Int)]) ar
    simp only [Tp.lst, Tp.cnts, List.length_cons, List.length_append]
    rw [Tp.lst_len ts]
    omega
end
theorem Tp.toTs_map : ∀ ts : List Tp, Tp.toTs ts = ts.map Tp.toT
  | [] => rfl
  | t :: ts => by rw [Tp.toTs, Tp.toTs_map ts]; rfl
theorem Tp.cnt_pos (t : Tp) : 1 ≤ t.cnt := by cases t <;> simp [Tp.cnt]
theorem Tp.cnts_len : ∀ ts : List Tp, ts.length ≤ Tp.cnts ts
  | [] => Nat.le_refl _
  | t :: ts => by
    have := Tp.cnt_pos t
    have := Tp.cnts_len ts
    simp only [List.length_cons, Tp.cnts]
    omega
theorem Tp.lst_app : ∀ (ts us : List Tp) (pl : List Int) (k : Nat) (ar : List Str), Tp.lst pl k ar (ts ++ us) = Tp.lst pl k ar ts ++ Tp.lst pl (k + ts.length) ar us
  | [], us, pl, k, ar => rfl
  | t :: ts, us, pl, k, ar => by
    simp only [List.cons_append, Tp.lst, Tp.lst_app ts us, List.append_assoc, List.length_cons]
    rw [show k + 1 + ts.length = k + (ts.length + 1) by omega]
/-! ### how deep the data are -/
theorem E.dep : ∀ e : E, Dep (e.depth + 2) e.toT
  | .num n => .tup _ _ (by simp) (by simp; exact ⟨.str _ _, .int _ _⟩)
  | .cell i => .tup _ _ (by simp) (by simp; exact ⟨.str _ _, .int _ _⟩)
  | .prop i => .tup _ _ (by simp) (by simp; exact ⟨.str _ _, .int _ _⟩)
  | .store i => .tup _ _ (by simp) (by simp; exact ⟨.str _ _, .int _ _⟩)
  | .index => .tup _ _ (by simp) (by simp; exact .str _ _)
  | .plus a b => .tup _ _ (by simp) (by simp; exact ⟨.str _ _, (E.dep a).mono (by simp only [E.depth]; omega), (E.dep b).mono (by simp only [E.depth]; omega)⟩)
  | .minus a b => .tup _ _ (by simp) (by simp; exact ⟨.str _ _, (E.dep a).mono (by simp only [E.depth]; omega), (E.dep b).mono (by simp only [E.depth]; omega)⟩)
  | .same a b => .tup _ _ (by simp) (by simp; exact ⟨.str _ _, (E.dep a).mono (by simp only [E.depth]; omega), (E.dep b).mono (by simp only [E.depth]; omega)⟩)
  | .less a b => .tup _ _ (by simp) (by simp; exact ⟨.str _ _, (E.dep a).mono (by simp only [E.depth]; omega), (E.dep b).mono (by simp only [E.depth]; omega)⟩)
  | .ite c a b => .tup _ _ (by simp) (by simp; exact ⟨.str _ _, (E.dep c).mono (by simp only [E.depth]; omega), (E.dep a).mono (by simp only [E.depth]; omega), (E.dep b).mono (by simp only [E.depth]; omega)⟩)
theorem E.dep5 {e : E} (h : e.depth ≤ 3) (n : Nat) : Dep (5 + n) e.toT := (E.dep e).mono (by omega)
theorem key_dep {k : Option E} (h : ∀ e ∈ k, e.depth ≤ 3) (n : Nat) : Dep (5 + n) (keyT k) := by
  cases k with
  | none => rw [Nat.add_comm]; exact .non _
  | some e => exact E.dep5 (h e rfl) n
theorem act_dep (k : Option Nat) (n : Nat) : Dep (5 + n) (actT k) := by
  rw [Nat.add_comm]
  cases k with
  | none => exact .non _
  | some e => exact .int _ _
mutual
theorem Tp.dep_ok : ∀ t : Tp, t.Fine → t.cnt ≤ 5000 → Dep (6 + 2 * t.dep + 1) t.toT
  | .text s, h, hc => .tup _ _ (by simp) (by simp; exact ⟨.str _ _, .str _ _⟩)
  | .show e, h, hc => .tup _ _ (by simp) (by simp; exact ⟨.str _ _, (E.dep5 h 1).mono (by omega)⟩)
  | .box tag key a cs, h, hc => by
    simp only [Tp.cnt] at hc
    have q := Tp.deps_ok cs h.2 (by omega)
    refine .tup _ _ (by simp) ?_
    simp only [List.mem_cons, List.not_mem_nil, or_false, forall_eq_or_imp, forall_eq, Tp.dep]
    exact ⟨.str _ _, .str _ _, (key_dep h.1 0).mono (by omega), (act_dep a 0).mono (by omega), q.mono (by omega)⟩
  | .when e cs os, h, hc => by
    simp only [Tp.cnt] at hc
    have q1 := Tp.deps_ok cs h.2.1 (by omega)
    have q2 := Tp.deps_ok os h.2.2 (by omega)
    refine .tup _ _ (by simp) ?_
    simp only [List.mem_cons, List.not_mem_nil, or_false, forall_eq_or_imp, forall_eq, Tp.dep]
    exact ⟨.str _ _, (E.dep5 h.1 0).mono (by omega), q1.mono (by omega), q2.mono (by omega)⟩
  | .each e cs, h, hc => by
    simp only [Tp.cnt] at hc
    have q := Tp.deps_ok cs h.2 (by omega)
    refine .tup _ _ (by simp) ?_
    simp only [List.mem_cons, List.not_mem_nil, or_false, forall_eq_or_imp, forall_eq, Tp.dep]
    exact ⟨.str _ _, (E.dep5 h.1 0).mono (by omega), q.mono (by omega)⟩
  | .child c key props, h, hc => by
    refine .tup _ _ (by simp) ?_
    simp only [List.mem_cons, List.not_mem_nil, or_false, forall_eq_or_imp, forall_eq]
    refine ⟨.str _ _, .int _ _, (key_dep h.1 1).mono (by omega), .tup 5 _ (by rw [List.length_map]; have := h.2.1; omega) fun t ht => ?_⟩
    obtain ⟨e, he, rfl⟩ := List.mem_map.mp ht
    exact E.dep5 (h.2.2 e he) 0
  | .part k, h, hc => .tup _ _ (by simp) (by simp; exact ⟨.str _ _, .int _ _⟩)
  | .input tag c, h, hc => .tup _ _ (by simp) (by simp; exact ⟨.str _ _, .str _ _, .int _ _⟩)
theorem Tp.deps_ok : ∀ ts : List Tp, Tp.Fines ts → Tp.cnts ts ≤ 5000 → Dep (6 + 2 * Tp.deps ts + 2) (.tup (Tp.toTs ts))
  | [], h, hc => .tup _ _ (by simp [Tp.toTs]) (by simp [Tp.toTs])
  | t :: ts, h, hc => by
    have z := Tp.cnts_len ts
    simp only [Tp.cnts] at hc
    have q1 := Tp.dep_ok t h.1 (by omega)
    have q2 := Tp.deps_ok ts h.2 (by omega)
    cases q2 with
    | tup _ _ l q2 =>
      refine .tup _ _ (by simp only [Tp.toTs, List.length_cons, Tp.toTs_map, List.length_map]; omega) ?_
      simp only [Tp.toTs, List.mem_cons, Tp.deps]
      rintro u (rfl | hu)
      · exact q1.mono (by omega)
      · exact (q2 u hu).mono (by omega)
end
/-! ### tuples added -/
theorem cat_t {K : PySem.W.Frag} {H : Hp} {a b : Addr} {xs ys : List V} {Q : VK} (ha : H a = some (.tup xs)) (hb : H b = some (.tup ys)) (hz : xs.length + ys.length ≤ 100000)
    (q : ∀ (c : Addr) (H' : Hp), Oth [] H H' → H' c = some (.tup (xs ++ ys)) → Q (.ref c) H') : rCatA K (.ref a) (.ref b) H Q := by
  refine ⟨a, b, xs, ys, rfl, rfl, SqT.of ha, SqT.of hb, Nat.le_trans hz (by decide), fun e => ?_, fun _ e => ?_, fun _ _ p hp => ?_⟩
  · exact q b H Oth.refl (by rw [e]; exact hb)
  · exact q a H Oth.refl (by rw [e, List.append_nil]; exact ha)
  · exact q p _ (Oth.new hp) upd_same
end Pw
namespace Pw
open PySem PySem.Spec PyProof.Rows L2
def spWide (n : Nat) : Sp := fun vs H Q _ => ∃ (b dg : Addr) (d : Nat), vs = [.ref b, .int (d : Int)] ∧ d < n ∧ Box H b dg [] ∧
  ∀ (e : E) (v : V) (H' : Hp), e.depth ≤ d → e.size ≤ 3 ^ d → IsT H' e.toT v → Box H' b dg [] → Oth [b] H H' → Q v H'
/-- _law_value: the scope is a list -/
def spLawValue (n : Nat) : Sp := fun vs H Q _ => ∃ (e : E) (c : Sc) (ve : V) (s ac ap as l : Addr) (L : List V), vs = [ve, .ref s, .ref l] ∧ IsT H e.toT ve ∧ H s = some (.lst [.ref ac, .ref ap, .ref as, .int c.index]) ∧
  H ac = some (.tup (c.cells.map V.int)) ∧ H ap = some (.tup (c.props.map V.int)) ∧ H as = some (.tup (c.store.map V.int)) ∧ s ≠ l ∧ H l = some (.lst L) ∧ e.depth < n ∧ L.length + e.size ≤ 100000 ∧
  ∀ H', H' l = some (.lst (L ++ (e.looks c).map V.int)) → Oth [l] H H' → Q (.int (e.val c)) H'
theorem at0 {x : V} {xs : List V} : atI (x :: xs) 0 = some x := atI_nat (j := 0) rfl
theorem at1 {x y : V} {xs : List V} : atI (x :: y :: xs) 1 = some y := atI_nat (j := 1) rfl
theorem at2 {x y z : V} {xs : List V} : atI (x :: y :: z :: xs) 2 = some z := atI_nat (j := 2) rfl
theorem at3 {x y z a : V} {xs : List V} : atI (x :: y :: z :: a :: xs) 3 = some a := atI_nat (j := 3) rfl
theorem at4 {x y z a b : V} {xs : List V} : atI (x :: y :: z :: a :: b :: xs) 4 = some b := atI_nat (j := 4) rfl
theorem at5 {x y z a b c : V} {xs : List V} : atI (x :: y :: z :: a :: b :: c :: xs) 5 = some c := atI_nat (j := 5) rfl
theorem sz {n : Nat} (h : n ≤ 1000 := by exact Nat.le_of_ble_eq_true rfl) : n ≤ sizeLine := Nat.le_of_lt (small1000 h)
theorem iteTd {p A B : Prop} [Decidable p] (hp : p) (h : A) : if decide p = true then A else B := by rw [decide_eq_true hp]; exact iteT h
theorem iteFd {p A B : Prop} [Decidable p] (hp : ¬ p) (h : B) : if decide p = true then A else B := by rw [decide_eq_false hp]; exact iteF h
theorem iteTb {b : Bool} {A B : Prop} (hb : b = true) (h : A) : if b = true then A else B := by rw [hb]; exact iteT h
theorem iteFb {b : Bool} {A B : Prop} (hb : b = false) (h : B) : if b = true then A else B := by rw [hb]; exact iteF h
theorem lt1 {x y w : V} {r : List V} (h : eqV x w = false) : ∀ (m : Nat) (z' : V), m < 1 → (x :: y :: r)[m]? = some z' → eqV z' w = false := fun m z' hm e => by
  obtain rfl : m = 0 := by omega
  cases e
  exact h
theorem lt2 {x y z w : V} {r : List V} (h : eqV x w = false) (h2 : eqV y w = false) : ∀ (m : Nat) (z' : V), m < 2 → (x :: y :: z :: r)[m]? = some z' → eqV z' w = false := fun m z' hm e => by
  rcases (by omega : m = 0 ∨ m = 1) with rfl | rfl
  · cases e; exact h
  · cases e; exact h2
end Pw
namespace Pw
open PySem PySem.Spec PyProof.Rows L2
def natV (n : Nat) : V := .int (n : Int)
/-- what the law's box says of what is left: templates, repeats, parts -/
structure Bt where
  n2 : Int
  n4 : Int
  ps : List Nat
structure By (H : Hp) (b d pl : Addr) (z : Bt) : Prop where
  box : ∃ n3 : Int, Box H b d [.int z.n2, .int n3, .int z.n4, .ref pl]
  parts : H pl = some (.lst (z.ps.map natV))
  nd : pl ≠ d
section
variable {H H' : Hp} {b d pl p : Addr} {S : List Addr} {o : HO} {z : Bt}
theorem By.get (h : By H b d pl z) : ∃ (at' : Nat) (n3 : Int), H b = some (.lst [.ref d, .int (at' : Int), .int z.n2, .int n3, .int z.n4, .ref pl]) := by
  obtain ⟨⟨n3, ds, at', h1, h2⟩, _, _⟩ := h
  exact ⟨at', n3, h1⟩
theorem By.dig (h : By H b d pl z) : ∃ ds : List Int, H d = some (.lst (ds.map V.int)) := by
  obtain ⟨⟨n3, ds, at', h1, h2⟩, _, _⟩ := h
  exact ⟨ds, h2⟩
theorem By.ndb (h : By H b d pl z) : d ≠ b := by
  intro e
  obtain ⟨at', n3, h1⟩ := h.get
  obtain ⟨ds, h2⟩ := h.dig
  rw [e, h1] at h2
  cases ds with
  | nil => cases h2
  | cons x r => cases h2
theorem By.npb (h : By H b d pl z) : pl ≠ b := by
  intro e
  obtain ⟨at', n3, h1⟩ := h.get
  have h2 := h.parts
  rw [e, h1] at h2
  cases hz : z.ps with
  | nil => rw [hz] at h2; cases h2
  | cons x r => rw [hz] at h2; cases h2
theorem By.put (h : By H b d pl z) (at' : Nat) (n2 n3 n4 : Int) : By (upd H b (.lst [.ref d, .int (at' : Int), .int n2, .int n3, .int n4, .ref pl])) b d pl ⟨n2, n4, z.ps⟩ := by
  obtain ⟨ds, h2⟩ := h.dig
  exact ⟨⟨n3, ds, at', upd_same, by rw [upd_ne h.ndb]; exact h2⟩, by rw [upd_ne h.npb]; exact h.parts, h.nd⟩
theorem By.oth (h : By H b d pl z) (o : Oth S H H') (nb : b ∉ S) (nd : d ∉ S) (np : pl ∉ S) : By H' b d pl z := by
  obtain ⟨n3, hb⟩ := h.box
  exact ⟨⟨n3, hb.oth o nb nd⟩, o.keep _ _ np h.parts, h.nd⟩
theorem By.new (h : By H b d pl z) (n : H p = none) : By (upd H p o) b d pl z := h.oth (S := []) (Oth.new n) (by simp) (by simp) (by simp)
theorem By.is (h : By H b d pl z) : ∃ xs, H b = some (.lst xs) := let ⟨_, _, e⟩ := h.get; ⟨_, e⟩
theorem By.nb (h : By H b d pl z) (n : H p = none) : b ≠ p := let ⟨_, _, e⟩ := h.get; ne_of_none e n
theorem By.ndn (h : By H b d pl z) (n : H p = none) : d ≠ p := let ⟨_, e⟩ := h.dig; ne_of_none e n
theorem By.npn (h : By H b d pl z) (n : H p = none) : pl ≠ p := ne_of_none h.parts n
theorem By.swap {q : Addr} (h : By H b d pl z) (hq : H q = none) (ps : List Nat) (at' : Nat) (n2 n3 n4 : Int) :
    By (upd (upd H q (.lst (ps.map natV))) b (.lst [.ref d, .int (at' : Int), .int n2, .int n3, .int n4, .ref q])) b d q ⟨n2, n4, ps⟩ := by
  obtain ⟨ds, h2⟩ := h.dig
  exact ⟨⟨n3, ds, at', upd_same, by rw [upd_ne h.ndb, upd_ne (h.ndn hq)]; exact h2⟩, by rw [upd_ne (h.nb hq).symm]; exact upd_same, (h.ndn hq).symm⟩
theorem By.fresh (h : By H' b d pl z) (o : Oth [b] H H') (hp : H' p = none) : H p = none := by
  cases e : H p with
  | none => rfl
  | some x =>
    obtain ⟨xs, hb⟩ := h.is
    by_cases z : p = b
    · rw [z, hb] at hp; cases hp
    · rw [o.keep p _ (by simp [z]) e] at hp; cases hp
theorem By.lit {H1 : Hp} {l : Addr} {xs : List V} (h : By H b d pl z) (hl : H l = none) (o : Oth [b] (upd H l (.lst xs)) H1) : H1 l = some (.lst xs) := o.keep l _ (by simp [(h.nb hl).symm]) upd_same
end
theorem bo_max : bootBuiltins "max" = some (.builtin "max") := by decide +kernel
theorem rgV_nat (n : Nat) : rgV 0 (n : Int) = (List.range n).map natV := by
  unfold rgV
  rw [Int.sub_zero, Int.toNat_natCast]
  exact List.map_congr_left fun i _ => by rw [Int.zero_add]; rfl
theorem natV_toNat {r : Int} (h : 0 ≤ r) : V.int r = natV r.toNat := by
  show V.int r = V.int ((r.toNat : Nat) : Int)
  rw [Int.toNat_of_nonneg h]
theorem FnOk.weak {P : Program} {w : World} {K : PySem.W.Frag} {mg : Str → Option Value} {base : Heap} {CX : CXT} {k : Nat} {f : Addr} {fd : FuncData} {ps : List Str} {sp sp' : Sp} (o : FnOk P w K mg base CX k f fd ps sp) (h : ∀ vs H Q E, sp' vs H Q E → sp vs H Q E) : FnOk P w K mg base CX k f fd ps sp' :=
  ⟨fun vs H Q E q => o.len _ _ _ _ (h _ _ _ _ q), fun A outer s H args us vs Q E hr e0 hb r q => o.run A outer s H args us vs Q E hr e0 hb r (h _ _ _ _ q)⟩
def spDrawY : Sp := fun vs H Q _ => ∃ (z : Bt) (b d pl : Addr) (m : Int), vs = [.ref b, .int m] ∧ 0 < m ∧ By H b d pl z ∧
  ∀ (r : Int) (H' : Hp), 0 ≤ r → r < m → By H' b d pl z → Oth [b] H H' → Q (.int r) H'
theorem draw_y {vs : List V} {H : Hp} {Q : VK} {E : XK} (h : spDrawY vs H Q E) : spDraw vs H Q E := by
  obtain ⟨z, b, d, pl, m, rfl, hm, h, q⟩ := h
  obtain ⟨n3, hb⟩ := h.box
  exact ⟨b, d, m, _, rfl, hm, hb, fun r H' l u hb' o => q r H' l u ⟨⟨n3, hb'⟩, o.keep _ _ (by simp [h.npb]) h.parts, h.nd⟩ o⟩
theorem at_mem : ∀ {xs : List V} {r : Int}, 0 ≤ r → r < (xs.length : Int) → ∃ v ∈ xs, atI xs r = some v := by
  intro xs r h0 h1
  obtain ⟨j, rfl⟩ := Int.eq_ofNat_of_zero_le h0
  have hj : j < xs.length := by omega
  exact ⟨xs[j], List.getElem_mem hj, atI_nat (List.getElem?_eq_getElem hj)⟩
theorem Oth.two {b pl : Addr} {H H' : Hp} (o : Oth [b] H H') : Oth [b, pl] H H' := o.mono (by simp)
theorem toTs_app (a b : List Tp) : Tp.toTs (a ++ b) = Tp.toTs a ++ Tp.toTs b := by rw [Tp.toTs_map, Tp.toTs_map, Tp.toTs_map, List.map_append]
theorem deps_app (b : List Tp) : ∀ a : List Tp, Tp.deps (a ++ b) = max (Tp.deps a) (Tp.deps b)
  | [] => by simp [Tp.deps]
  | t :: a => by simp only [List.cons_append, Tp.deps, deps_app b a]; omega
theorem cnts_app (b : List Tp) : ∀ a : List Tp, Tp.cnts (a ++ b) = Tp.cnts a + Tp.cnts b
  | [] => by simp [Tp.cnts]
  | t :: a => by simp only [List.cons_append, Tp.cnts, cnts_app b a]; omega
theorem deps_parts : ∀ us : List Nat, Tp.deps (us.map Tp.part) = 0
  | [] => rfl
  | u :: us => by simp only [List.map_cons, Tp.deps, Tp.dep, deps_parts us]; rfl
theorem cnts_parts : ∀ us : List Nat, Tp.cnts (us.map Tp.part) = us.length
  | [] => rfl
  | u :: us => by simp only [List.map_cons, Tp.cnts, Tp.cnt, cnts_parts us, List.length_cons]; omega
/-! ### what is known of expressions and templates -/
def E.Ok : E → Prop
  | .num n => 0 ≤ n ∧ n < 1000
  | .plus a b | .minus a b | .same a b | .less a b => a.Ok ∧ b.Ok
  | .ite c a b => c.Ok ∧ a.Ok ∧ b.Ok
  | _ => True
mutual
/-- how many repeats -/
def Tp.ech : Tp → Nat
  | .box _ _ _ cs => Tp.echs cs
  | .each _ cs => Tp.echs cs + 1
  | .when _ cs os => Tp.echs cs + Tp.echs os
  | _ => 0
def Tp.echs : List Tp → Nat
  | [] => 0
  | t :: ts => t.ech + Tp.echs ts
end
mutual
/-- the parts that stand in it -/
def Tp.pts : Tp → List Nat
  | .box _ _ _ cs | .each _ cs => Tp.ptss cs
  | .when _ cs os => Tp.ptss cs ++ Tp.ptss os
  | .part k => [k]
  | _ => []
def Tp.ptss : List Tp → List Nat
  | [] => []
  | t :: ts => t.pts ++ Tp.ptss ts
end
def KeyOk (k : Option E) : Prop := ∀ e ∈ k, e.depth ≤ 1 ∧ e.Ok
mutual
def Tp.Ok (own last : Nat) (free : Bool) : Tp → Prop
  | .text s => s = "a" ∨ s = "b c" ∨ s = "7"
  | .show e => e.depth ≤ 1 ∧ e.Ok
  | .box tag key act cs => (tag = "p" ∨ tag = "div" ∨ tag = "li") ∧ KeyOk key ∧ (∀ n ∈ act, n ≤ 2) ∧ Tp.Oks own last free cs
  | .when e cs os => (e.depth ≤ 1 ∧ e.Ok) ∧ Tp.Oks own last false cs ∧ Tp.Oks own last false os
  | .each e cs => (e.depth ≤ 3 ∧ e.Ok) ∧ Tp.Oks own last false cs
  | .child c key props => own < c ∧ c ≤ last ∧ KeyOk key ∧ props.length ≤ 2 ∧ ∀ e ∈ props, e.depth ≤ 1 ∧ e.Ok
  | .part _ => own = 0 ∧ free = true
  | .input tag cell => tag = "q" ∧ cell ≤ 2
def Tp.Oks (own last : Nat) (free : Bool) : List Tp → Prop
  | [] => True
  | t :: ts => t.Ok own last free ∧ Tp.Oks own last free ts
end
theorem echs_app (b : List Tp) : ∀ a : List Tp, Tp.echs (a ++ b) = Tp.echs a + Tp.echs b
  | [] => by simp [Tp.echs]
  | t :: a => by simp only [List.cons_append, Tp.echs, echs_app b a]; omega
theorem ptss_app (b : List Tp) : ∀ a : List Tp, Tp.ptss (a ++ b) = Tp.ptss a ++ Tp.ptss b
  | [] => by simp [Tp.ptss]
  | t :: a => by simp only [List.cons_append, Tp.ptss, ptss_app b a, List.append_assoc]
theorem oks_app {own last : Nat} {free : Bool} {b : List Tp} (hb : Tp.Oks own last free b) : ∀ a : List Tp, Tp.Oks own last free a → Tp.Oks own last free (a ++ b)
  | [], _ => hb
  | t :: a, h => ⟨h.1, oks_app hb a h.2⟩
theorem oks_mem {own last : Nat} {free : Bool} : ∀ {a : List Tp}, Tp.Oks own last free a → ∀ t ∈ a, t.Ok own last free
  | [], _, t, h => nomatch h
  | u :: a, h, t, ht => by
    rcases List.mem_cons.mp ht with rfl | ht
    · exact h.1
    · exact oks_mem h.2 t ht
theorem echs_parts : ∀ us : List Nat, Tp.echs (us.map Tp.part) = 0
  | [] => rfl
  | u :: us => by simp only [List.map_cons, Tp.echs, Tp.ech, echs_parts us]
theorem ptss_parts : ∀ us : List Nat, Tp.ptss (us.map Tp.part) = us
  | [] => rfl
  | u :: us => by simp only [List.map_cons, Tp.ptss, Tp.pts, ptss_parts us]; rfl
theorem oks_parts {last : Nat} : ∀ us : List Nat, Tp.Oks 0 last true (us.map Tp.part)
  | [] => trivial
  | u :: us => ⟨⟨rfl, rfl⟩, oks_parts us⟩
mutual
theorem Tp.Ok.fine {own last : Nat} : ∀ {free : Bool} (t : Tp), t.Ok own last free → t.Fine
  | _, .text _, _ => trivial
  | _, .show e, h => Nat.le_trans h.1 (by decide)
  | _, .box _ key _ cs, h => ⟨fun e he => Nat.le_trans (h.2.1 e he).1 (by decide), Tp.Oks.fine cs h.2.2.2⟩
  | _, .when e cs os, h => ⟨Nat.le_trans h.1.1 (by decide), Tp.Oks.fine cs h.2.1, Tp.Oks.fine os h.2.2⟩
  | _, .each e cs, h => ⟨h.1.1, Tp.Oks.fine cs h.2⟩
  | _, .child _ key props, h => ⟨fun e he => Nat.le_trans (h.2.2.1 e he).1 (by decide), Nat.le_trans h.2.2.2.1 (by decide), fun e he => Nat.le_trans (h.2.2.2.2 e he).1 (by decide)⟩
  | _, .part _, _ => trivial
  | _, .input _ _, _ => trivial
theorem Tp.Oks.fine {own last : Nat} : ∀ {free : Bool} (ts : List Tp), Tp.Oks own last free ts → Tp.Fines ts
  | _, [], _ => trivial
  | _, t :: ts, h => ⟨Tp.Ok.fine t h.1, Tp.Oks.fine ts h.2⟩
end
mutual
theorem Tp.Ok.noparts {own last : Nat} {free : Bool} (hf : ¬ (own = 0 ∧ free = true)) : ∀ (t : Tp), t.Ok own last free → t.pts = []
  | .text _, _ | .show _, _ | .child _ _ _, _ | .input _ _, _ => rfl
  | .box _ _ _ cs, h => Tp.Oks.noparts hf cs h.2.2.2
  | .when _ cs os, h => by simp only [Tp.pts, Tp.Oks.noparts (free := false) (by simp) cs h.2.1, Tp.Oks.noparts (free := false) (by simp) os h.2.2, List.append_nil]
  | .each _ cs, h => Tp.Oks.noparts (free := false) (by simp) cs h.2
  | .part k, h => absurd h hf
theorem Tp.Oks.noparts {own last : Nat} {free : Bool} (hf : ¬ (own = 0 ∧ free = true)) : ∀ (ts : List Tp), Tp.Oks own last free ts → Tp.ptss ts = []
  | [], _ => rfl
  | t :: ts, h => by simp only [Tp.ptss, Tp.Ok.noparts hf t h.1, Tp.Oks.noparts hf ts h.2, List.append_nil]
end
/-! ### programs -/
inductive St1 where
  | set (i : Nat) (e : E) | put (i : Nat) (e : E) | up (a : Nat)
def St1.toT : St1 → T
  | .set i e => .tup [.str "set", .int (i : Int), e.toT]
  | .put i e => .tup [.str "put", .int (i : Int), e.toT]
  | .up a => .tup [.str "up", .int (a : Int)]
def St1.Ok : St1 → Prop
  | .set i e | .put i e => i ≤ 1 ∧ e.depth ≤ 1 ∧ e.Ok
  | .up a => a ≤ 1
def stepsT (r : List St1) : T := .tup (r.map St1.toT)
def actsT (a : List (List St1)) : T := .tup (a.map stepsT)
def natT (n : Nat) : T := .int (n : Int)
def natsT (ns : List Nat) : T := .tup (ns.map natT)
structure Cq where
  cells : List Nat
  cs : List Tp
  acts : List (List St1)
structure Pq where
  comps : List Cq
  store : List Nat
  parts : List Nat
def Cq.toT (c : Cq) : T := .tup [.str "component", natsT c.cells, .tup (Tp.toTs c.cs), actsT c.acts]
def Pq.toT (p : Pq) : T := .tup [.str "program", .tup (p.comps.map Cq.toT), natsT p.store, natsT p.parts]
structure Cq.Ok (i last : Nat) (parts : Nat) (c : Cq) : Prop where
  oks : Tp.Oks i last true c.cs
  deps : Tp.deps c.cs ≤ 3
  cnts : Tp.cnts c.cs ≤ 8
  echs : Tp.echs c.cs ≤ 1
  pts : (Tp.ptss c.cs).Perm (if i = 0 then List.range parts else [])
  cl : c.cells.length ≤ 2
  cells : ∀ n ∈ c.cells, n < 4
  al : c.acts.length = 2
  acts : ∀ a ∈ c.acts, a.length ≤ 2 ∧ ∀ s ∈ a, s.Ok
structure Pq.Ok (g : Pq) : Prop where
  comps : ∀ (i : Nat) (c : Cq), g.comps[i]? = some c → Cq.Ok i (g.comps.length - 1) g.parts.length c
  ne : 0 < g.comps.length
  many : g.comps.length ≤ 3
  pl : g.parts.length ≤ 2
  parts : ∀ n ∈ g.parts, 0 < n ∧ n < g.comps.length
  sl : g.store.length ≤ 2
  store : ∀ n ∈ g.store, n < 4
def spExprY (n : Nat) : Sp := fun vs H Q _ => ∃ (z : Bt) (b dg pl : Addr) (d : Nat), vs = [.ref b, .int (d : Int)] ∧ d < n ∧ By H b dg pl z ∧
  ∀ (e : E) (v : V) (H' : Hp), e.depth ≤ d → e.Ok → IsT H' e.toT v → By H' b dg pl z → Oth [b] H H' → Q v H'
def spKeyY : Sp := fun vs H Q _ => ∃ (z : Bt) (b dg pl : Addr), vs = [.ref b] ∧ By H b dg pl z ∧
  ∀ (k : Option E) (v : V) (H' : Hp), KeyOk k → IsT H' (keyT k) v → By H' b dg pl z → Oth [b] H H' → Q v H'
def spTemplateY (n : Nat) : Sp := fun vs H Q _ => ∃ (z : Bt) (b dg pl : Addr) (own level last r : Nat) (free : Bool), vs = [.ref b, .int (own : Int), .int (level : Int), .int (last : Int), .bl free] ∧ level + r = 3 ∧ r < n ∧ 0 < z.n2 ∧ 0 ≤ z.n4 ∧ By H b dg pl z ∧
  ∀ (z' : Bt) (t : Tp) (v : V) (H' : Hp), t.dep ≤ r → (t.cnt : Int) + z'.n2 = z.n2 → 0 ≤ z'.n2 → (t.ech : Int) + z'.n4 ≤ z.n4 → 0 ≤ z'.n4 → (t.pts ++ z'.ps).Perm z.ps → t.Ok own last free → IsT H' t.toT v → By H' b dg pl z' → Oth [b, pl] H H' → Q v H'
def spContentsY (n : Nat) : Sp := fun vs H Q _ => ∃ (z : Bt) (b dg pl : Addr) (own level last r : Nat) (free : Bool), vs = [.ref b, .int (own : Int), .int (level : Int), .int (last : Int), .bl free] ∧ level + r = 3 ∧ r < n ∧ 0 ≤ z.n2 ∧ 0 ≤ z.n4 ∧ By H b dg pl z ∧
  ∀ (z' : Bt) (ts : List Tp) (v : V) (H' : Hp), Tp.deps ts ≤ r → (Tp.cnts ts : Int) + z'.n2 = z.n2 → 0 ≤ z'.n2 → (Tp.echs ts : Int) + z'.n4 ≤ z.n4 → 0 ≤ z'.n4 → (Tp.ptss ts ++ z'.ps).Perm z.ps → Tp.Oks own last free ts → IsT H' (.tup (Tp.toTs ts)) v → By H' b dg pl z' → Oth [b, pl] H H' → Q v H'
def ActsOk (a : List (List St1)) : Prop := a.length = 2 ∧ ∀ r ∈ a, r.length ≤ 2 ∧ ∀ s ∈ r, s.Ok
def spActionsY : Sp := fun vs H Q _ => ∃ (z : Bt) (b dg pl : Addr), vs = [.ref b] ∧ By H b dg pl z ∧
  ∀ (a : List (List St1)) (v : V) (H' : Hp), ActsOk a → IsT H' (actsT a) v → By H' b dg pl z → Oth [b] H H' → Q v H'
def spProgramY : Sp := fun vs H Q _ => ∃ (z : Bt) (b dg pl : Addr), vs = [.ref b] ∧ By H b dg pl z ∧
  ∀ (g : Pq) (v : V) (pl' : Addr) (z' : Bt) (H' : Hp), g.Ok → IsT H' g.toT v → By H' b dg pl' z' → Oth [b] H H' → Q v H'
def spBoxY (K : PySem.W.Frag) : Sp := fun vs H Q _ => ∃ (a : Addr) (ns : List Int) (i j : Nat), vs = [.ref a, .int (i : Int), .int (j : Int)] ∧ SqL K H a (ns.map V.int) ∧ i ≤ 100 ∧ j ≤ 100 ∧
  ∀ (b d pl : Addr) (H' : Hp), H b = none → Oth [] H H' → By H' b d pl ⟨0, 0, []⟩ → Q (.ref b) H'
theorem nats_paired {H : Hp} : ∀ ms : List Nat, Paired (IsT H) (ms.map natT) (ms.map natV)
  | [] => .nil
  | m :: ms => .cons (.int _) (nats_paired ms)
theorem mkNats {H : Hp} {a : Addr} {ns : List Nat} (e : H a = some (.tup (ns.map natV))) : IsT H (natsT ns) (.ref a) := .mk e (nats_paired ns)
end Pw
namespace Pw
open PySem PySem.Spec PyProof.Rows L2
mutual
def T.nk : T → NestedKey
  | .non => .none
  | .bl b => .num (if b = true then 1 else 0)
  | .int i => .num i
  | .str s => .text s
  | .tup ts => .tup (T.nks ts)
def T.nks : List T → List NestedKey
  | [] => []
  | t :: ts => t.nk :: T.nks ts
end
theorem nks_len : ∀ ts : List T, (T.nks ts).length = ts.length
  | [] => rfl
  | t :: ts => congrArg (· + 1) (nks_len ts)
theorem nested_all {h : Heap} : ∀ (ts : List T) (xs : List V) (us : List Value), xs.length = ts.length → Vals xs us → (∀ (i : Nat) (t : T) (x : V), ts[i]? = some t → xs[i]? = some x → ∀ u, RelV x u → NestedIs h t.nk u) → NestedAll h (T.nks ts) us
  | [], [], _, _, .nil, _ => .nil
  | [], _ :: _, _, l, _, _ => by cases l
  | _ :: _, [], _, l, _, _ => by cases l
  | t :: ts, x :: xs, _, l, .cons r rr, q => .cons (q 0 t x rfl rfl _ r) (nested_all ts xs _ (Nat.succ.inj l) rr fun i t' x' e1 e2 => q (i + 1) t' x' e1 e2)
theorem nested_is {P : Program} {w : World} {H : Hp} {h : Heap} (ok : HOk P w H h) {t : T} {v : V} (i : IsT H t v) : ∀ u, RelV v u → NestedIs h t.nk u := by
  induction i with
  | non => intro u r; cases (show u = Value.none from r); exact .none
  | bl b => intro u r; cases (show u = Value.bool b from r); exact .bool rfl
  | int i => intro u r; obtain ⟨t, rfl⟩ := (show ∃ t, u = Value.int i t from r); exact .int _ _
  | str s => intro u r; obtain ⟨t, rfl⟩ := (show ∃ t, u = Value.str s t from r); exact .text _ _
  | @tup a xs ts e l _ ih =>
    intro u r
    cases (show u = Value.ref a from r)
    obtain ⟨_, its, rv, o, h1, h2, n, h3⟩ := (show ObjOk P w H h a (.tup xs) from ok a _ e)
    exact .tup h1 h2 h3 (nested_all ts xs its l rv ih)
/-- the one object of such a dict -/
def NDφ (P : Program) (w : World) (a : Addr) (xs : List (NestedKey × Addr × Value)) (h : Heap) : Prop :=
  ∃ o es ep, h.get? a = some o ∧ o.ExactDict ∧ o.data = .dict es ep ∧ es.toList = xs.map (entryOfKey (nestedKind P w)) ∧ (xs.map (·.1)).Nodup
/-- a key that stands in the heap -/
def NKey (H : Hp) (k : NestedKey) (b : Addr) : Prop := ∃ t : T, t.nk = k ∧ IsT H t (.ref b) ∧ k.depth ≤ 8
abbrev NT (H : Hp) : List (NestedKey × V) → List (NestedKey × Addr × Value) → Prop := Paired fun p q => p.1 = q.1 ∧ NKey H p.1 q.2.1 ∧ RelV p.2 q.2.2
/-- at a stands a dict of nested keys -/
def DN (P : Program) (w : World) (H : Hp) (a : Addr) (kvs : List (NestedKey × V)) : Prop :=
  ∃ xs, H a = some (.ext (NDφ P w a xs)) ∧ kvs.length ≤ sizeLine ∧ (a == sysModules) = false ∧ NT H kvs xs
section
variable {P : Program} {w : World} {H H' : Hp} {h : Heap} {a b : Addr} {S : List Addr} {kvs : List (NestedKey × V)} {xs : List (NestedKey × Addr × Value)} {k : NestedKey}
theorem NKey.oth (x : NKey H k b) (o : Oth S H H') : NKey H' k b := by
  obtain ⟨t, e, i, d⟩ := x
  exact ⟨t, e, i.oth o, d⟩
theorem NT.oth (r : NT H kvs xs) (o : Oth S H H') : NT H' kvs xs := by
  induction r with
  | nil => exact .nil
  | cons h t ih => exact .cons ⟨h.1, h.2.1.oth o, h.2.2⟩ ih
theorem DN.oth (x : DN P w H a kvs) (o : Oth S H H') (n : a ∉ S) : DN P w H' a kvs := by
  obtain ⟨xs, e, z, y, r⟩ := x
  exact ⟨xs, o.keep a _ n e, z, y, r.oth o⟩
theorem DN.ne (x : DN P w H a kvs) (n : H b = none) : a ≠ b := by
  obtain ⟨xs, e, z, y, r⟩ := x
  exact ne_of_none e n
theorem DN.is (x : DN P w H a kvs) : ∃ φ, H a = some (.ext φ) := by
  obtain ⟨xs, e, z, y, r⟩ := x
  exact ⟨_, e⟩
theorem NKey.ok (ok : HOk P w H h) (x : NKey H k b) : (nestedKind P w).is h k b := by
  obtain ⟨t, rfl, i, d⟩ := x
  exact ⟨nested_is ok i _ rfl, d⟩
theorem NT.all (ok : HOk P w H h) (r : NT H kvs xs) : ∀ x ∈ xs, (nestedKind P w).is h x.1 x.2.1 := by
  induction r with
  | nil => intro x hx; exact nomatch hx
  | cons q t ih =>
    intro x hx
    rcases List.mem_cons.mp hx with e | hx
    · subst e
      have := NKey.ok ok q.2.1
      rw [q.1] at this
      exact this
    · exact ih x hx
theorem DN.open (ok : HOk P w H h) (x : DN P w H a kvs) : ∃ xs, kvs.length ≤ sizeLine ∧ (a == sysModules) = false ∧ NT H kvs xs ∧ h.DictOfH (nestedKind P w) a xs := by
  obtain ⟨xs, e, z, y, r⟩ := x
  obtain ⟨⟨o, es, ep, h1, h2, h3, h4, h5⟩, _⟩ := (show ObjOk P w H h a (.ext (NDφ P w a xs)) from ok a _ e)
  exact ⟨xs, z, y, r, o, es, ep, h1, h2, h3, h4, r.all ok, h5⟩
theorem ND_ok (hm : h.DictOfH (nestedKind P w) a xs) : ObjOk P w H h a (.ext (NDφ P w a xs)) := by
  obtain ⟨o, es, ep, h1, h2, h3, h4, h6, h5⟩ := hm
  refine ⟨⟨o, es, ep, h1, h2, h3, h4, h5⟩, ⟨o, h1⟩, fun g1 g2 hg k => ?_⟩
  obtain ⟨o, es, ep, h1, h2, h3, h4, h5⟩ := hg
  exact ⟨o, es, ep, k _ h1, h2, h3, h4, h5⟩
theorem NT.val (r : NT H kvs xs) (k : NestedKey) : RelO (valV kvs k) ((atKey xs k).map (·.2)) := by
  induction r with
  | nil => exact True.intro
  | @cons p q ps qs h t ih =>
    obtain ⟨h1, h2, h3⟩ := h
    by_cases e : p.1 = k
    · have e' : q.1 = k := h1.symm.trans e
      have b : atKey (q :: qs) k = some q.2 := by simp [atKey, List.find?_cons, e']
      rw [valV_pos e, b]; exact h3
    · have e' : ¬ q.1 = k := fun z => e (h1.trans z)
      have b : atKey (q :: qs) k = atKey qs k := by simp [atKey, List.find?_cons, e']
      rw [valV_neg e, b]; exact ih
theorem NT.repl (r : NT H kvs xs) (k : NestedKey) {y : V} {u : Value} (ry : RelV y u) : NT H (kvs.map fun kv => if kv.1 = k then (kv.1, y) else kv) (xs.map (putAt k u)) := by
  induction r with
  | nil => exact .nil
  | @cons p q ps qs h t ih =>
    obtain ⟨h1, h2, h3⟩ := h
    rw [List.map_cons, List.map_cons]
    refine .cons ?_ ih
    unfold putAt
    by_cases e : p.1 = k
    · rw [if_pos e, if_pos (h1.symm.trans e)]; exact ⟨h1, h2, ry⟩
    · rw [if_neg e, if_neg (fun z => e (h1.trans z))]; exact ⟨h1, h2, h3⟩
theorem NT.put (r : NT H kvs xs) (k : NestedKey) {y : V} {u : Value} (hb : NKey H k b) (ry : RelV y u) : NT H (putK kvs k y) (storedH xs k b u) := by
  have e : (kvs.any fun kv => decide (kv.1 = k)) = (atKey xs k).isSome := by
    rw [valV_any, (r.val k).isSome_eq, Option.isSome_map]
  unfold putK storedH
  rw [e]
  by_cases q : (atKey xs k).isSome = true
  · rw [if_pos q, if_pos q]; exact r.repl k ry
  · rw [if_neg q, if_neg q]; exact Paired.snoc r ⟨rfl, hb, ry⟩
end
section
variable {X : Cx} {pos : Pos}
/-- {} -/
def tDNewN (P : Program) (w : World) : TE := fun _ H Q => ∀ p H', H p = none → Oth [] H H' → H' p ≠ none → DN P w H' p [] → Q (.ref p) H'
theorem pe_dnewN : PE X (.Dict [] [] pos) (tDNewN X.prog X.w) := ⟨fun pins s σ H Q I h => by
  have hn := I.hok.fresh (Nat.le_refl s.heap.objs.size)
  refine wpAny_Dict_empty ⟨.ref s.heap.objs.size, _, I.laid (a := s.heap.objs.size) (o := .ext (NDφ X.prog X.w s.heap.objs.size [])) (t' := s.toks) (fun _ _ q => Heap.get?_push_of_some _ q) (Nat.le_refl _) (ND_ok (Heap.DictOfH.new s.heap)), rfl, h _ _ hn (Oth.new hn) (by rw [upd_same]; exact fun z => nomatch z) ?_⟩
  exact ⟨[], upd_same, Nat.zero_le _, beq_eq_false_iff_ne.mpr (Ne.symm (Nat.ne_of_lt I.big)), .nil⟩⟩
/-- x in d -/
def rInN (P : Program) (w : World) : R2 := fun x y H Q => ∃ b a k kvs, x = .ref b ∧ y = .ref a ∧ NKey H k b ∧ DN P w H a kvs ∧ Q (.bl (valV kvs k).isSome) H
theorem op_inN (hu : X.A.units + 20 < cLine) : OpR X (compareOp .In) (rInN X.prog X.w) := by
  intro pins s σ H x y v u Q I r1 r2 h
  obtain ⟨b, a, k, kvs, rfl, rfl, hk, hd, q⟩ := h
  cases (show v = Value.ref b from r1)
  cases (show u = Value.ref a from r2)
  obtain ⟨xs, z, hs, rel, dd⟩ := hd.open I.hok
  refine wpAny_in_heap (knd := nestedKind X.prog X.w) (by show X.A.units + 1 + 8 < cLine; omega) (hk.ok I.hok) hs dd ?_
  have e := (rel.val k).isSome_eq
  rw [Option.isSome_map] at e
  rw [← e]
  exact ⟨.bl _, H, I.tok _, rfl, q⟩
/-- d[x] -/
def rIxN (P : Program) (w : World) : R2 := fun y x H Q => ∃ b a k kvs v, x = .ref b ∧ y = .ref a ∧ NKey H k b ∧ DN P w H a kvs ∧ valV kvs k = some v ∧ Q v H
theorem n_getItem {pins : List (Addr × Obj)} {σ : L2.St} {H : Hp} {s : Shared} {A : Around} {E : Value → Shared → Prop} {a b : Addr} {kvs : List (NestedKey × V)} {k : NestedKey} {v : V} {Q : Value → Shared → Prop} (hu : A.units + 20 < cLine) (I : Inv X pins σ H s) (hk : NKey H k b) (hd : DN X.prog X.w H a kvs) (hv : valV kvs k = some v)
    (h : ∀ w' s', Inv X pins σ H s' → RelV v w' → Q w' s') : wpAny (model X.prog X.w) A (getItem (.ref a) (.ref b)) Q E s := by
  obtain ⟨xs, z, hs, rel, dd⟩ := hd.open I.hok
  obtain ⟨w', hw, rw'⟩ := RelO.some_of (v := v) (o := (atKey xs k).map (·.2)) (by rw [← hv]; exact rel.val k)
  obtain ⟨p, hp, hp2⟩ := Option.map_eq_some_iff.mp hw
  refine wpAny_getItem_heap (knd := nestedKind X.prog X.w) (by show A.units + 1 + 8 < cLine; omega) (hk.ok I.hok) dd hp ?_
  rw [hp2]
  exact h w' _ (I.tok _) rw'
/-- d[x] = v -/
def rSetN (P : Program) (w : World) : V → V → V → Hp → (Hp → Prop) → Prop := fun o i v H Q => ∃ a b k kvs, o = .ref a ∧ i = .ref b ∧ NKey H k b ∧ DN P w H a kvs ∧ kvs.length < sizeLine ∧
  ∀ H', Oth [a] H H' → DN P w H' a (putK kvs k v) → Q H'
theorem set_nest (hu : X.A.units + 20 < cLine) : PSet X (rSetN X.prog X.w) := by
  intro pins s σ H o i v ov iv u Q I ro ri rv h
  obtain ⟨a, b, k, kvs, rfl, rfl, hk, hd, hl, q⟩ := h
  cases (show ov = Value.ref a from ro)
  cases (show iv = Value.ref b from ri)
  obtain ⟨φ, ea⟩ := hd.is
  obtain ⟨xs, z, hs, rel, dd⟩ := hd.open I.hok
  have hz : xs.length ≤ sizeLine := by rw [← Paired.length rel]; exact z
  refine wpAny_setItem_heap (knd := nestedKind X.prog X.w) (hsz := hz) (by show X.A.units + 1 + 8 < cLine; omega) (hk.ok I.hok) dd fun h' dd' hs' => ?_
  have he : ∃ q, h'.get? a = some q := let ⟨q, _, _, hq, _⟩ := dd'; ⟨q, hq⟩
  have o1 : Oth [a] H (upd H a (.ext (NDφ X.prog X.w a (storedH xs k b u)))) := ⟨fun c o' n e => by rw [upd_ne (fun z => n (by rw [z]; simp))]; exact e, fun c ys e => by rw [upd_ne (ne_of e ea (fun z => nomatch z))]; exact e⟩
  exact ⟨_, d_write I (by rw [ea]; exact True.intro) hs' he (ND_ok dd'), q _ o1 ⟨_, upd_same, by have := length_putK kvs k v; omega, hs, (rel.put k hk rv).oth o1⟩⟩
end
end Pw
namespace Pw
open PySem PySem.Spec PyProof.Rows L2
theorem take_snoc {α : Type} {l : List α} {i : Nat} {x : α} (h : l[i]? = some x) : l.take (i + 1) = l.take i ++ [x] := by
  rw [List.take_add_one, h]
  rfl
theorem IsT.mkI {H : Hp} {a : Addr} {ns : List Int} (e : H a = some (.tup (ns.map V.int))) : IsT H (.tup (ns.map .int)) (.ref a) := .mk e (int_paired ns)
inductive Nm where
  | at (t i : List Int) | key (t : List Int) (v : Int) | part (k : Nat)
deriving DecidableEq
def intsT (ns : List Int) : T := .tup (ns.map .int)
def Nm.toT : Nm → T
  | .at t i => .tup [.str "at", intsT t, intsT i]
  | .key t v => .tup [.str "key", intsT t, .int v]
  | .part k => .tup [.str "part", .int (k : Int)]
theorem nks_ints : ∀ {a b : List Int}, T.nks (a.map .int) = T.nks (b.map .int) → a = b
  | [], [], _ => rfl
  | [], _ :: _, h => by simp [T.nks] at h
  | _ :: _, [], h => by simp [T.nks] at h
  | x :: a, y :: b, h => by
    simp only [List.map_cons, T.nks, T.nk, List.cons.injEq, NestedKey.num.injEq] at h
    rw [h.1, nks_ints h.2]
theorem ints_nk {a b : List Int} (h : (intsT a).nk = (intsT b).nk) : a = b := by
  simp only [intsT, T.nk, NestedKey.tup.injEq] at h
  exact nks_ints h
theorem Nm.nk_inj {a b : Nm} (h : a.toT.nk = b.toT.nk) : a = b := by
  cases a with
  | «at» t i => cases b with
    | «at» t' i' =>
      simp only [Nm.toT, T.nk, T.nks, NestedKey.tup.injEq, List.cons.injEq] at h
      have h1 := ints_nk h.2.1
      have h2 := ints_nk h.2.2.1
      rw [h1, h2]
    | key t' v' => exfalso; simp only [Nm.toT, T.nk, T.nks, NestedKey.tup.injEq, List.cons.injEq, NestedKey.text.injEq] at h; exact absurd h.1 (by decide)
    | part k' => exfalso; simp only [Nm.toT, T.nk, T.nks, NestedKey.tup.injEq, List.cons.injEq, NestedKey.text.injEq] at h; exact absurd h.1 (by decide)
  | key t v => cases b with
    | «at» t' i' => exfalso; simp only [Nm.toT, T.nk, T.nks, NestedKey.tup.injEq, List.cons.injEq, NestedKey.text.injEq] at h; exact absurd h.1 (by decide)
    | key t' v' =>
      simp only [Nm.toT, T.nk, T.nks, NestedKey.tup.injEq, List.cons.injEq, NestedKey.num.injEq] at h
      have h1 := ints_nk h.2.1
      rw [h1, h.2.2.1]
    | part k' => exfalso; simp only [Nm.toT, T.nk, T.nks, NestedKey.tup.injEq, List.cons.injEq, NestedKey.text.injEq] at h; exact absurd h.1 (by decide)
  | part k => cases b with
    | «at» t' i' => exfalso; simp only [Nm.toT, T.nk, T.nks, NestedKey.tup.injEq, List.cons.injEq, NestedKey.text.injEq] at h; exact absurd h.1 (by decide)
    | key t' v' => exfalso; simp only [Nm.toT, T.nk, T.nks, NestedKey.tup.injEq, List.cons.injEq, NestedKey.text.injEq] at h; exact absurd h.1 (by decide)
    | part k' =>
      simp only [Nm.toT, T.nk, T.nks, NestedKey.tup.injEq, List.cons.injEq, NestedKey.num.injEq] at h
      have : k = k' := by omega
      rw [this]
/-! ### a row as it is laid out -/
structure Dr where
  wish : Nm
  other : Nm
  tp : Tp
  idx : Int
def Dr.toT (d : Dr) : T := .tup [d.wish.toT, d.other.toT, d.tp.toT, .int d.idx]
def Tp.key? : Tp → Option E
  | .box _ k _ _ => k
  | .child _ k _ => k
  | _ => none
def keyNm (c : Sc) (addr reps : List Int) : Option E → Nm
  | some e => .key addr (e.val c)
  | none => .at addr reps
def Tp.wish (c : Sc) (addr reps : List Int) : Tp → Nm
  | .part k => .part k
  | t => keyNm c addr reps t.key?
def keyLooks (c : Sc) : Option E → List Int
  | some e => e.looks c
  | none => []
mutual
def Tp.dis1 (c : Sc) (addr reps : List Int) : Tp → List Dr
  | .when e cs os => if e.val c = 0 then Tp.dis c (addr ++ [1]) reps 0 os else Tp.dis c (addr ++ [0]) reps 0 cs
  | .each e cs => (List.range ((e.val c) % 6).toNat).flatMap fun (n : Nat) => Tp.dis { c with index := (n : Int) } addr (reps ++ [(n : Int)]) 0 cs
  | .text s => [⟨.at addr reps, .at addr reps, .text s, c.index⟩]
  | .show e => [⟨.at addr reps, .at addr reps, .show e, c.index⟩]
  | .box tag key act cs => [⟨keyNm c addr reps key, .at addr reps, .box tag key act cs, c.index⟩]
  | .child n key props => [⟨keyNm c addr reps key, .at addr reps, .child n key props, c.index⟩]
  | .part k => [⟨.part k, .at addr reps, .part k, c.index⟩]
  | .input tag cell => [⟨.at addr reps, .at addr reps, .input tag cell, c.index⟩]
def Tp.dis (c : Sc) (before reps : List Int) (k : Nat) : List Tp → List Dr
  | [] => []
  | t :: ts => t.dis1 c (before ++ [(k : Int)]) reps ++ Tp.dis c before reps (k + 1) ts
end
mutual
def Tp.lk1 (c : Sc) : Tp → List Int
  | .when e cs os => e.looks c ++ if e.val c = 0 then Tp.lks c os else Tp.lks c cs
  | .each e cs => e.looks c ++ (List.range ((e.val c) % 6).toNat).flatMap fun (n : Nat) => Tp.lks { c with index := (n : Int) } cs
  | .box _ key _ _ => keyLooks c key
  | .child _ key _ => keyLooks c key
  | _ => []
def Tp.lks (c : Sc) : List Tp → List Int
  | [] => []
  | t :: ts => t.lk1 c ++ Tp.lks c ts
end
theorem Tp.dis_app (c : Sc) (before reps : List Int) : ∀ (a b : List Tp) (k : Nat), Tp.dis c before reps k (a ++ b) = Tp.dis c before reps k a ++ Tp.dis c before reps (k + a.length) b
  | [], b, k => rfl
  | t :: a, b, k => by
    simp only [List.cons_append, Tp.dis, Tp.dis_app c before reps a b, List.append_assoc, List.length_cons]
    rw [show k + 1 + a.length = k + (a.length + 1) by omega]
theorem Tp.lks_app (c : Sc) : ∀ (a b : List Tp), Tp.lks c (a ++ b) = Tp.lks c a ++ Tp.lks c b
  | [], b => rfl
  | t :: a, b => by simp only [List.cons_append, Tp.lks, Tp.lks_app c a b, List.append_assoc]
/-! ### how long rows are -/
theorem E.size_le : ∀ (e : E) (d : Nat), e.depth ≤ d → e.size ≤ 3 ^ d
  | .num _, d, _ | .cell _, d, _ | .prop _, d, _ | .store _, d, _ | .index, d, _ => Nat.one_le_pow d 3 (by decide)
  | .plus a b, d, h | .minus a b, d, h | .same a b, d, h | .less a b, d, h => by
    simp only [E.depth] at h
    obtain ⟨d, rfl⟩ : ∃ n, d = n + 1 := ⟨d - 1, by omega⟩
    have h1 := E.size_le a d (by omega)
    have h2 := E.size_le b d (by omega)
    rw [Nat.pow_succ]
    simp only [E.size]
    omega
  | .ite c a b, d, h => by
    simp only [E.depth] at h
    obtain ⟨d, rfl⟩ : ∃ n, d = n + 1 := ⟨d - 1, by omega⟩
    have h0 := E.size_le c d (by omega)
    have h1 := E.size_le a d (by omega)
    have h2 := E.size_le b d (by omega)
    rw [Nat.pow_succ]
    simp only [E.size]
    omega
def ksz : Option E → Nat
  | some e => e.size
  | none => 0
def psz : List E → Nat
  | [] => 0
  | e :: es => e.size + psz es
mutual
/-- how much a template can give, its expressions told -/
def Tp.wt : Tp → Nat
  | .when e cs os => e.size + Tp.wts cs + Tp.wts os + 1
  | .each e cs => e.size + 5 * Tp.wts cs + 1
  | .box _ key _ cs => ksz key + Tp.wts cs + 1
  | .child _ key props => ksz key + psz props + 1
  | .show e => e.size + 1
  | _ => 1
def Tp.wts : List Tp → Nat
  | [] => 0
  | t :: ts => t.wt + Tp.wts ts
end
theorem wts_app (b : List Tp) : ∀ a : List Tp, Tp.wts (a ++ b) = Tp.wts a + Tp.wts b
  | [] => by simp [Tp.wts]
  | t :: a => by simp only [List.cons_append, Tp.wts, wts_app b a]; omega
theorem wts_mem {t : Tp} : ∀ {ts : List Tp}, t ∈ ts → t.wt ≤ Tp.wts ts
  | u :: ts, h => by
    simp only [Tp.wts]
    rcases List.mem_cons.mp h with rfl | h
    · omega
    · have := wts_mem h; omega
theorem deps_mem {t : Tp} : ∀ {ts : List Tp}, t ∈ ts → t.dep ≤ Tp.deps ts
  | u :: ts, h => by
    simp only [Tp.deps]
    rcases List.mem_cons.mp h with rfl | h
    · omega
    · have := deps_mem h; omega
theorem fines_mem {t : Tp} : ∀ {ts : List Tp}, Tp.Fines ts → t ∈ ts → t.Fine
  | u :: ts, f, h => by
    rcases List.mem_cons.mp h with rfl | h
    · exact f.1
    · exact fines_mem f.2 h
theorem keyLooks_le (c : Sc) : ∀ k : Option E, (keyLooks c k).length ≤ ksz k
  | none => Nat.le_refl _
  | some e => e.looks_le c
theorem mod6 (x : Int) : (x % 6).toNat ≤ 5 := by omega
theorem flat_len {α : Type} {f : Nat → List α} {m : Nat} (h : ∀ n, (f n).length ≤ m) : ∀ r : Nat, ((List.range r).flatMap f).length ≤ r * m
  | 0 => by simp
  | r + 1 => by
    rw [List.range_succ, List.flatMap_append, List.length_append, Nat.succ_mul]
    have := flat_len h r
    have := h r
    simp only [List.flatMap_cons, List.flatMap_nil, List.append_nil]
    omega
mutual
theorem Tp.dis1_len : ∀ (t : Tp) (c : Sc) (addr reps : List Int), (t.dis1 c addr reps).length ≤ t.wt
  | .when e cs os, c, addr, reps => by
    simp only [Tp.dis1, Tp.wt]
    split
    · have := Tp.dis_len os c (addr ++ [1]) reps 0; omega
    · have := Tp.dis_len cs c (addr ++ [0]) reps 0; omega
  | .each e cs, c, addr, reps => by
    simp only [Tp.dis1, Tp.wt]
    have h1 := flat_len (f := fun n : Nat => Tp.dis { c with index := (n : Int) } addr (reps ++ [(n : Int)]) 0 cs) (m := Tp.wts cs) (fun n => Tp.dis_len cs _ _ _ _) ((e.val c) % 6).toNat
    have h2 := Nat.mul_le_mul_right (Tp.wts cs) (mod6 (e.val c))
    omega
  | .text s, c, addr, reps | .show s, c, addr, reps | .box _ _ _ _, c, addr, reps | .child _ _ _, c, addr, reps | .part _, c, addr, reps | .input _ _, c, addr, reps => by simp [Tp.dis1, Tp.wt]
theorem Tp.dis_len : ∀ (ts : List Tp) (c : Sc) (before reps : List Int) (k : Nat), (Tp.dis c before reps k ts).length ≤ Tp.wts ts
  | [], c, before, reps, k => Nat.le_refl _
  | t :: ts, c, before, reps, k => by
    simp only [Tp.dis, Tp.wts, List.length_append]
    have := Tp.dis1_len t c (before ++ [(k : Int)]) reps
    have := Tp.dis_len ts c before reps (k + 1)
    omega
end
mutual
theorem Tp.lk1_len : ∀ (t : Tp) (c : Sc), (t.lk1 c).length ≤ t.wt
  | .when e cs os, c => by
    have := e.looks_le c
    simp only [Tp.lk1, Tp.wt, List.length_append]
    split
    · have := Tp.lks_len os c; omega
    · have := Tp.lks_len cs c; omega
  | .each e cs, c => by
    have := e.looks_le c
    simp only [Tp.lk1, Tp.wt, List.length_append]
    have h1 := flat_len (f := fun n : Nat => Tp.lks { c with index := (n : Int) } cs) (m := Tp.wts cs) (fun n => Tp.lks_len cs _) ((e.val c) % 6).toNat
    have h2 := Nat.mul_le_mul_right (Tp.wts cs) (mod6 (e.val c))
    omega
  | .box _ key _ cs, c => by have := keyLooks_le c key; simp only [Tp.lk1, Tp.wt]; omega
  | .child _ key _, c => by have := keyLooks_le c key; simp only [Tp.lk1, Tp.wt]; omega
  | .text _, c | .show _, c | .part _, c | .input _ _, c => by simp [Tp.lk1]
theorem Tp.lks_len : ∀ (ts : List Tp) (c : Sc), (Tp.lks c ts).length ≤ Tp.wts ts
  | [], c => Nat.le_refl _
  | t :: ts, c => by
    simp only [Tp.lks, Tp.wts, List.length_append]
    have := Tp.lk1_len t c
    have := Tp.lks_len ts c
    omega
end
theorem ksz_le {k : Option E} (h : KeyOk k) : ksz k ≤ 3 := by
  cases k with
  | none => exact Nat.zero_le _
  | some e => exact E.size_le e 1 (h e rfl).1
theorem psz_le : ∀ (es : List E), (∀ e ∈ es, e.depth ≤ 1 ∧ e.Ok) → psz es ≤ 3 * es.length
  | [], _ => Nat.le_refl _
  | e :: es, h => by
    have h1 := E.size_le e 1 (h e List.mem_cons_self).1
    have h2 := psz_le es fun x hx => h x (List.mem_cons_of_mem _ hx)
    simp only [psz, List.length_cons]
    omega
mutual
theorem Tp.wt_le0 {own last : Nat} : ∀ {free : Bool} (t : Tp), t.Ok own last free → t.ech = 0 → t.wt ≤ 10 * t.cnt
  | _, .text _, _, _ | _, .part _, _, _ | _, .input _ _, _, _ => by simp [Tp.wt, Tp.cnt]
  | _, .show e, h, _ => by have := E.size_le e 1 h.1; simp only [Tp.wt, Tp.cnt]; omega
  | _, .box _ key _ cs, h, z => by
    have := ksz_le h.2.1
    have := Tp.wts_le0 cs h.2.2.2 z
    simp only [Tp.wt, Tp.cnt]; omega
  | _, .when e cs os, h, z => by
    simp only [Tp.ech] at z
    have := E.size_le e 1 h.1.1
    have := Tp.wts_le0 cs h.2.1 (by omega)
    have := Tp.wts_le0 os h.2.2 (by omega)
    simp only [Tp.wt, Tp.cnt]; omega
  | _, .each e cs, h, z => by simp [Tp.ech] at z
  | _, .child _ key props, h, _ => by
    have := ksz_le h.2.2.1
    have := psz_le props h.2.2.2.2
    have := h.2.2.2.1
    simp only [Tp.wt, Tp.cnt]; omega
theorem Tp.wts_le0 {own last : Nat} : ∀ {free : Bool} (ts : List Tp), Tp.Oks own last free ts → Tp.echs ts = 0 → Tp.wts ts ≤ 10 * Tp.cnts ts
  | _, [], _, _ => Nat.le_refl _
  | _, t :: ts, h, z => by
    simp only [Tp.echs] at z
    have := Tp.wt_le0 t h.1 (by omega)
    have := Tp.wts_le0 ts h.2 (by omega)
    simp only [Tp.wts, Tp.cnts]; omega
end
mutual
theorem Tp.wt_le {own last : Nat} : ∀ {free : Bool} (t : Tp), t.Ok own last free → t.ech ≤ 1 → t.wt ≤ 50 * t.cnt
  | _, .text _, _, _ | _, .part _, _, _ | _, .input _ _, _, _ => by simp [Tp.wt, Tp.cnt]
  | _, .show e, h, _ => by have := E.size_le e 1 h.1; simp only [Tp.wt, Tp.cnt]; omega
  | _, .box _ key _ cs, h, z => by
    have := ksz_le h.2.1
    have := Tp.wts_le cs h.2.2.2 z
    simp only [Tp.wt, Tp.cnt]; omega
  | _, .when e cs os, h, z => by
    simp only [Tp.ech] at z
    have := E.size_le e 1 h.1.1
    have := Tp.wts_le cs h.2.1 (by omega)
    have := Tp.wts_le os h.2.2 (by omega)
    simp only [Tp.wt, Tp.cnt]; omega
  | _, .each e cs, h, z => by
    simp only [Tp.ech] at z
    have := E.size_le e 3 h.1.1
    have := Tp.wts_le0 cs h.2 (by omega)
    simp only [Tp.wt, Tp.cnt]; omega
  | _, .child _ key props, h, _ => by
    have := ksz_le h.2.2.1
    have := psz_le props h.2.2.2.2
    have := h.2.2.2.1
    simp only [Tp.wt, Tp.cnt]; omega
theorem Tp.wts_le {own last : Nat} : ∀ {free : Bool} (ts : List Tp), Tp.Oks own last free ts → Tp.echs ts ≤ 1 → Tp.wts ts ≤ 50 * Tp.cnts ts
  | _, [], _, _ => Nat.le_refl _
  | _, t :: ts, h, z => by
    simp only [Tp.echs] at z
    have := Tp.wt_le t h.1 (by omega)
    have := Tp.wts_le ts h.2 (by omega)
    simp only [Tp.wts, Tp.cnts]; omega
end
/-! ### names -/
/-- the program's: the wish, unless it is taken -/
def named (tk : List Nm) : List Dr → List (Nm × Tp × Int)
  | [] => []
  | d :: r => let n := if d.wish ∈ tk then d.other else d.wish; (n, d.tp, d.idx) :: named (tk ++ [n]) r
/-- the law's: a part has its name always -/
def lawName (tk : List Nm) (d : Dr) : Nm :=
  match d.wish with
  | .key t v => if Nm.key t v ∈ tk then d.other else .key t v
  | n => n
def lawNamed (tk : List Nm) : List Dr → List (Nm × Tp × Int)
  | [] => []
  | d :: r => (lawName tk d, d.tp, d.idx) :: lawNamed (tk ++ [lawName tk d]) r
theorem lawNamed_app (r : List Dr) : ∀ (tk : List Nm) (a : List Dr), lawNamed tk (a ++ r) = lawNamed tk a ++ lawNamed (tk ++ (lawNamed tk a).map (·.1)) r
  | tk, [] => by simp [lawNamed]
  | tk, d :: a => by
    simp only [List.cons_append, lawNamed, lawNamed_app r, List.map_cons, List.append_assoc, List.nil_append]
theorem lawNamed_len : ∀ (tk : List Nm) (a : List Dr), (lawNamed tk a).length = a.length
  | tk, [] => rfl
  | tk, d :: a => by simp only [lawNamed, List.length_cons, lawNamed_len]
theorem named_app (r : List Dr) : ∀ (tk : List Nm) (a : List Dr), named tk (a ++ r) = named tk a ++ named (tk ++ (named tk a).map (·.1)) r
  | tk, [] => by simp [named]
  | tk, d :: a => by
    simp only [List.cons_append, named, named_app r, List.map_cons, List.append_assoc, List.nil_append]
theorem named_len : ∀ (tk : List Nm) (a : List Dr), (named tk a).length = a.length
  | tk, [] => rfl
  | tk, d :: a => by simp only [named, List.length_cons, named_len]
def Dr.partOf (d : Dr) : List Nat := match d.wish with
  | .part k => [k]
  | _ => []
def partsIn' : List Dr → List Nat
  | [] => []
  | d :: r => d.partOf ++ partsIn' r
theorem partsIn'_app (r : List Dr) : ∀ a : List Dr, partsIn' (a ++ r) = partsIn' a ++ partsIn' r
  | [] => rfl
  | d :: a => by simp only [List.cons_append, partsIn', partsIn'_app r a, List.append_assoc]
/-- what holds of the elements of a row -/
structure Dr.Good (d : Dr) : Prop where
  other : ∃ t i, d.other = .at t i
  wish : d.wish = d.other ∨ (∃ t v, d.wish = .key t v) ∨ ∃ k, d.wish = .part k
structure RowGood (ds : List Dr) : Prop where
  all : ∀ d ∈ ds, d.Good
  others : (ds.map (·.other)).Nodup
  parts : (partsIn' ds).Nodup
/-- both namings are one, and the names are unlike -/
theorem named_eq : ∀ (ds done : List Dr) (tk : List Nm), RowGood (done ++ ds) → tk.Nodup → (∀ t i, Nm.at t i ∈ tk → Nm.at t i ∈ done.map (·.other)) → (∀ k, Nm.part k ∈ tk → k ∈ partsIn' done) →
    named tk ds = lawNamed tk ds ∧ (tk ++ (lawNamed tk ds).map (·.1)).Nodup
  | [], done, tk, g, nd, h1, h2 => ⟨rfl, by simpa [lawNamed] using nd⟩
  | d :: ds, done, tk, g, nd, h1, h2 => by
    have gd := g.all d (by simp)
    obtain ⟨t, i, ho⟩ := gd.other
    have oth : Nm.at t i ∉ tk := fun h => by
      have h3 := h1 _ _ h
      have h4 := g.others
      rw [List.map_append, List.nodup_append] at h4
      exact h4.2.2 _ h3 d.other (by simp) ho.symm
    have pn : ∀ k, d.wish = .part k → Nm.part k ∉ tk := fun k hk h => by
      have h3 := h2 _ h
      have h4 := g.parts
      rw [partsIn'_app, List.nodup_append] at h4
      exact h4.2.2 _ h3 k (by simp [partsIn', Dr.partOf, hk]) rfl
    have e : (if d.wish ∈ tk then d.other else d.wish) = lawName tk d := by
      unfold lawName
      rcases gd.wish with h | ⟨t', v', h⟩ | ⟨k, h⟩
      · rw [h, ho, if_neg oth]
      · rw [h]
      · rw [h, if_neg (pn k h)]
    have nn : lawName tk d ∉ tk := by
      rw [← e]
      split
      · rw [ho]; exact oth
      · assumption
    have a1 : ∀ t' i', Nm.at t' i' = lawName tk d → Nm.at t' i' = d.other := fun t' i' h => by
      rw [← e] at h
      split at h
      · exact h
      · rcases gd.wish with h5 | ⟨t5, v5, h5⟩ | ⟨k, h5⟩
        · rw [h, h5]
        · rw [h5] at h; cases h
        · rw [h5] at h; cases h
    have a2 : ∀ k, Nm.part k = lawName tk d → d.partOf = [k] := fun k h => by
      rw [← e] at h
      split at h
      · rw [ho] at h; cases h
      · simp only [Dr.partOf, ← h]
    obtain ⟨r1, r2⟩ := named_eq ds (done ++ [d]) (tk ++ [lawName tk d]) (by simpa using g) (by
      rw [List.nodup_append]
      exact ⟨nd, by simp, fun a ha b hb => by rw [List.mem_singleton.mp hb]; exact fun z => nn (z ▸ ha)⟩) (fun t' i' h => by
      rcases List.mem_append.mp h with h | h
      · rw [List.map_append]; exact List.mem_append_left _ (h1 _ _ h)
      · rw [List.map_append]; exact List.mem_append_right _ (by rw [a1 t' i' (List.mem_singleton.mp h)]; simp)) (fun k h => by
      rw [partsIn'_app]
      rcases List.mem_append.mp h with h | h
      · exact List.mem_append_left _ (h2 _ h)
      · exact List.mem_append_right _ (by simp [partsIn', a2 k (List.mem_singleton.mp h)]))
    refine ⟨by simp only [named, lawNamed, e, r1], ?_⟩
    simpa [lawNamed] using r2
/-! ### the rows that are laid out are such -/
mutual
theorem Tp.dis1_at : ∀ (t : Tp) (c : Sc) (addr reps : List Int), ∀ d ∈ t.dis1 c addr reps, (∃ u w, d.other = .at (addr ++ u) (reps ++ w)) ∧ d.Good
  | .when e cs os, c, addr, reps, d, h => by
    simp only [Tp.dis1] at h
    split at h
    · obtain ⟨⟨j, u, w, _, e⟩, g⟩ := Tp.dis_at os c (addr ++ [1]) reps 0 d h
      exact ⟨⟨1 :: (j : Int) :: u, w, by rw [e]; simp⟩, g⟩
    · obtain ⟨⟨j, u, w, _, e⟩, g⟩ := Tp.dis_at cs c (addr ++ [0]) reps 0 d h
      exact ⟨⟨0 :: (j : Int) :: u, w, by rw [e]; simp⟩, g⟩
  | .each e cs, c, addr, reps, d, h => by
    simp only [Tp.dis1, List.mem_flatMap] at h
    obtain ⟨n, _, h⟩ := h
    obtain ⟨⟨j, u, w, _, e⟩, g⟩ := Tp.dis_at cs _ addr (reps ++ [(n : Int)]) 0 d h
    exact ⟨⟨(j : Int) :: u, (n : Int) :: w, by rw [e]; simp⟩, g⟩
  | .text _, c, addr, reps, d, h | .show _, c, addr, reps, d, h | .input _ _, c, addr, reps, d, h => by
    simp only [Tp.dis1, List.mem_singleton] at h
    subst h
    exact ⟨⟨[], [], by simp⟩, ⟨_, _, rfl⟩, .inl rfl⟩
  | .part k, c, addr, reps, d, h => by
    simp only [Tp.dis1, List.mem_singleton] at h
    subst h
    exact ⟨⟨[], [], by simp⟩, ⟨_, _, rfl⟩, .inr (.inr ⟨_, rfl⟩)⟩
  | .box _ key _ _, c, addr, reps, d, h | .child _ key _, c, addr, reps, d, h => by
    simp only [Tp.dis1, List.mem_singleton] at h
    subst h
    refine ⟨⟨[], [], by simp⟩, ⟨_, _, rfl⟩, ?_⟩
    cases key with
    | none => exact .inl rfl
    | some e => exact .inr (.inl ⟨_, _, rfl⟩)
theorem Tp.dis_at : ∀ (ts : List Tp) (c : Sc) (before reps : List Int) (k : Nat), ∀ d ∈ Tp.dis c before reps k ts, (∃ (j : Nat) (u w : List Int), k ≤ j ∧ d.other = .at (before ++ (j : Int) :: u) (reps ++ w)) ∧ d.Good
  | [], c, before, reps, k, d, h => nomatch h
  | t :: ts, c, before, reps, k, d, h => by
    simp only [Tp.dis, List.mem_append] at h
    rcases h with h | h
    · obtain ⟨⟨u, w, e⟩, g⟩ := Tp.dis1_at t c (before ++ [(k : Int)]) reps d h
      exact ⟨⟨k, u, w, Nat.le_refl _, by rw [e]; simp⟩, g⟩
    · obtain ⟨⟨j, u, w, l, e⟩, g⟩ := Tp.dis_at ts c before reps (k + 1) d h
      exact ⟨⟨j, u, w, by omega, e⟩, g⟩
end
theorem nodup_flat {α : Type} {f : Nat → List α} (h1 : ∀ n, (f n).Nodup) (h2 : ∀ n m a, a ∈ f n → a ∈ f m → n = m) : ∀ r : Nat, ((List.range r).flatMap f).Nodup
  | 0 => by simp
  | r + 1 => by
    rw [List.range_succ, List.flatMap_append, List.nodup_append]
    refine ⟨nodup_flat h1 h2 r, by simpa using h1 r, fun a ha b hb z => ?_⟩
    subst z
    obtain ⟨n, hn, ha⟩ := List.mem_flatMap.mp ha
    obtain ⟨m, hm, hb⟩ := List.mem_flatMap.mp hb
    have := h2 n m a ha hb
    rw [List.mem_singleton.mp hm] at this
    have := List.mem_range.mp hn
    omega
theorem map_flat {α β : Type} (g : α → β) (f : Nat → List α) (l : List Nat) : (l.flatMap f).map g = l.flatMap fun n => (f n).map g := by
  rw [List.map_flatMap]
mutual
theorem Tp.dis1_nodup : ∀ (t : Tp) (c : Sc) (addr reps : List Int), ((t.dis1 c addr reps).map (·.other)).Nodup
  | .when e cs os, c, addr, reps => by
    simp only [Tp.dis1]
    split
    · exact Tp.dis_nodup os c (addr ++ [1]) reps 0
    · exact Tp.dis_nodup cs c (addr ++ [0]) reps 0
  | .each e cs, c, addr, reps => by
    simp only [Tp.dis1]
    rw [map_flat]
    refine nodup_flat (fun n => Tp.dis_nodup cs _ addr _ 0) (fun n m a ha hb => ?_) _
    obtain ⟨d, hd, rfl⟩ := List.mem_map.mp ha
    obtain ⟨d', hd', e'⟩ := List.mem_map.mp hb
    obtain ⟨⟨j, u, w, _, e1⟩, _⟩ := Tp.dis_at cs _ addr (reps ++ [(n : Int)]) 0 d hd
    obtain ⟨⟨j', u', w', _, e2⟩, _⟩ := Tp.dis_at cs _ addr (reps ++ [(m : Int)]) 0 d' hd'
    rw [e1, e2] at e'
    simp only [Nm.at.injEq, List.append_assoc, List.cons_append, List.nil_append] at e'
    have h := List.append_cancel_left e'.2
    simp only [List.cons.injEq] at h
    omega
  | .text _, c, addr, reps | .show _, c, addr, reps | .input _ _, c, addr, reps | .part _, c, addr, reps | .box _ _ _ _, c, addr, reps | .child _ _ _, c, addr, reps => by simp [Tp.dis1]
theorem Tp.dis_nodup : ∀ (ts : List Tp) (c : Sc) (before reps : List Int) (k : Nat), ((Tp.dis c before reps k ts).map (·.other)).Nodup
  | [], c, before, reps, k => by simp [Tp.dis]
  | t :: ts, c, before, reps, k => by
    simp only [Tp.dis, List.map_append]
    rw [List.nodup_append]
    refine ⟨Tp.dis1_nodup t c _ reps, Tp.dis_nodup ts c before reps (k + 1), fun a ha b hb z => ?_⟩
    subst z
    obtain ⟨d, hd, rfl⟩ := List.mem_map.mp ha
    obtain ⟨d', hd', e'⟩ := List.mem_map.mp hb
    obtain ⟨⟨u, w, e1⟩, _⟩ := Tp.dis1_at t c (before ++ [(k : Int)]) reps d hd
    obtain ⟨⟨j, u', w', l, e2⟩, _⟩ := Tp.dis_at ts c before reps (k + 1) d' hd'
    rw [e1, e2] at e'
    simp only [Nm.at.injEq, List.append_assoc, List.cons_append, List.nil_append] at e'
    have h := List.append_cancel_left e'.1
    simp only [List.cons.injEq] at h
    omega
end
mutual
theorem Tp.dis1_parts {own last : Nat} : ∀ {free : Bool} (t : Tp) (c : Sc) (addr reps : List Int), t.Ok own last free → List.Sublist (partsIn' (t.dis1 c addr reps)) t.pts
  | _, .when e cs os, c, addr, reps, h => by
    simp only [Tp.dis1]
    have h1 := Tp.dis_parts os c (addr ++ [1]) reps 0 h.2.2
    have h2 := Tp.dis_parts cs c (addr ++ [0]) reps 0 h.2.1
    simp only [Tp.pts]
    split
    · exact h1.trans (List.sublist_append_right _ _)
    · exact h2.trans (List.sublist_append_left _ _)
  | _, .each e cs, c, addr, reps, h => by
    simp only [Tp.dis1]
    have z : ∀ n : Nat, partsIn' (Tp.dis { c with index := (n : Int) } addr (reps ++ [(n : Int)]) 0 cs) = [] := fun n => by
      have h1 := Tp.dis_parts cs { c with index := (n : Int) } addr (reps ++ [(n : Int)]) 0 h.2
      rw [Tp.Oks.noparts (free := false) (by simp) cs h.2] at h1
      exact List.sublist_nil.mp h1
    have zz : ∀ l : List Nat, partsIn' (l.flatMap fun n : Nat => Tp.dis { c with index := (n : Int) } addr (reps ++ [(n : Int)]) 0 cs) = [] := fun l => by
      induction l with
      | nil => rfl
      | cons n l ih => rw [List.flatMap_cons, partsIn'_app, z, ih]; rfl
    rw [zz]
    exact List.nil_sublist _
  | _, .text _, c, addr, reps, h | _, .show _, c, addr, reps, h | _, .input _ _, c, addr, reps, h => by simp [Tp.dis1, partsIn', Dr.partOf, Tp.pts]
  | _, .part k, c, addr, reps, h => by simp [Tp.dis1, partsIn', Dr.partOf, Tp.pts]
  | _, .box _ key _ _, c, addr, reps, h => by
    cases key <;> simp [Tp.dis1, partsIn', Dr.partOf, keyNm]
  | _, .child _ key _, c, addr, reps, h => by
    cases key <;> simp [Tp.dis1, partsIn', Dr.partOf, keyNm]
theorem Tp.dis_parts {own last : Nat} : ∀ {free : Bool} (ts : List Tp) (c : Sc) (before reps : List Int) (k : Nat), Tp.Oks own last free ts → List.Sublist (partsIn' (Tp.dis c before reps k ts)) (Tp.ptss ts)
  | _, [], c, before, reps, k, _ => List.Sublist.refl _
  | _, t :: ts, c, before, reps, k, h => by
    simp only [Tp.dis, Tp.ptss]
    rw [partsIn'_app]
    exact (Tp.dis1_parts t c _ reps h.1).append (Tp.dis_parts ts c before reps (k + 1) h.2)
end
theorem dis_good {own last : Nat} {free : Bool} {ts : List Tp} (c : Sc) (h : Tp.Oks own last free ts) (hp : (Tp.ptss ts).Nodup) : RowGood (Tp.dis c [] [] 0 ts) :=
  ⟨fun d hd => (Tp.dis_at ts c [] [] 0 d hd).2, Tp.dis_nodup ts c [] [] 0, (Tp.dis_parts ts c [] [] 0 h).nodup hp⟩
theorem names_eq {own last : Nat} {free : Bool} {ts : List Tp} (c : Sc) (h : Tp.Oks own last free ts) (hp : (Tp.ptss ts).Nodup) :
    named [] (Tp.dis c [] [] 0 ts) = lawNamed [] (Tp.dis c [] [] 0 ts) ∧ ((lawNamed [] (Tp.dis c [] [] 0 ts)).map (·.1)).Nodup := by
  have := named_eq (Tp.dis c [] [] 0 ts) [] [] (dis_good c h hp) (by simp) (by simp) (by simp)
  simpa using this
end Pw
namespace Pw
open PySem PySem.Spec PyProof.Rows L2
mutual
def T.dat : T → PyData
  | .non => .none | .bl b => .bool b | .int i => .int i | .str s => .str s
  | .tup ts => .tuple (T.dats ts)
def T.dats : List T → List PyData
  | [] => []
  | t :: ts => t.dat :: T.dats ts
end
theorem dats_map : ∀ ts : List T, T.dats ts = ts.map T.dat
  | [] => rfl
  | t :: ts => by rw [T.dats, dats_map ts]; rfl
theorem beq_dec {α : Type} [DecidableEq α] [BEq α] [LawfulBEq α] (a b : α) : (a == b) = decide (a = b) := by
  by_cases h : a = b
  · subst h; simp
  · rw [decide_eq_false h]; simpa using h
mutual
theorem eqv_dat : ∀ a b : T, PyData.eqv a.dat b.dat = decide (a.nk = b.nk)
  | .non, b => by cases b <;> simp [T.dat, T.nk, PyData.eqv]
  | .bl x, b => by
    cases b with
    | bl y => cases x <;> cases y <;> rfl
    | int j => simp only [T.dat, T.nk, PyData.eqv, NestedKey.num.injEq]; exact beq_dec _ _
    | _ => simp [T.dat, T.nk, PyData.eqv]
  | .int i, b => by
    cases b with
    | bl y => simp only [T.dat, T.nk, PyData.eqv, NestedKey.num.injEq]; exact beq_dec _ _
    | int j => simp only [T.dat, T.nk, PyData.eqv, NestedKey.num.injEq]; exact beq_dec _ _
    | _ => simp [T.dat, T.nk, PyData.eqv]
  | .str s, b => by
    cases b with
    | str z => simp only [T.dat, T.nk, PyData.eqv, NestedKey.text.injEq]; exact beq_dec _ _
    | _ => simp [T.dat, T.nk, PyData.eqv]
  | .tup ts, b => by
    cases b with
    | tup us => simp only [T.dat, T.nk, PyData.eqv, eqv_dats ts us, NestedKey.tup.injEq]
    | _ => simp [T.dat, T.nk, PyData.eqv]
theorem eqv_dats : ∀ a b : List T, PyData.eqvAll (T.dats a) (T.dats b) = decide (T.nks a = T.nks b)
  | [], [] => rfl
  | [], _ :: _ => by simp [T.dats, T.nks, PyData.eqvAll]
  | _ :: _, [] => by simp [T.dats, T.nks, PyData.eqvAll]
  | x :: a, y :: b => by
    simp only [T.dats, T.nks, PyData.eqvAll, eqv_dat x y, eqv_dats a b, List.cons.injEq, Bool.decide_and]
end
section
variable {K : PySem.W.Frag} {H : Hp}
theorem dpAll_of {ts : List T} {xs : List V} (p : Paired (Dp K H) xs (ts.map T.dat)) : DpAll K H xs (ts.map T.dat) := by
  generalize ts.map T.dat = ds at p
  induction p with
  | nil => exact .nil
  | cons r _ ih => exact .cons r ih
theorem pair_dp : ∀ {ts : List T} {xs : List V}, xs.length = ts.length → (∀ (i : Nat) (t : T) (x : V), ts[i]? = some t → xs[i]? = some x → Dp K H x t.dat) → DpAll K H xs (T.dats ts)
  | [], [], _, _ => .nil
  | [], _ :: _, l, _ => by cases l
  | _ :: _, [], l, _ => by cases l
  | t :: ts, x :: xs, l, h => .cons (h 0 t x rfl rfl) (pair_dp (Nat.succ.inj l) fun i t' x' e1 e2 => h (i + 1) t' x' e1 e2)
theorem IsT.dp {t : T} {v : V} (h : IsT H t v) : Dp K H v t.dat := by
  induction h with
  | non => exact .non
  | bl b => exact .bl b
  | int i => exact .int i
  | str s => exact .str s
  | tup e l _ ih => exact .tup (SqT.of e) (pair_dp l ih)
theorem paired_dp : ∀ {ts : List T} {xs : List V}, Paired (IsT H) ts xs → DpAll K H xs (T.dats ts)
  | _, _, .nil => .nil
  | _, _, .cons r q => .cons r.dp (paired_dp q)
end
mutual
theorem dep_depth : ∀ {n : Nat} (t : T), Dep n t → t.dat.depth ≤ n
  | _, .non, h => Nat.zero_le _
  | _, .bl _, h => Nat.zero_le _
  | _, .int _, h => Nat.zero_le _
  | _, .str _, h => Nat.zero_le _
  | _, .tup ts, h => by
    cases h with
    | tup n _ _ q =>
      simp only [T.dat, PyData.depth]
      exact Nat.succ_le_succ (deps_depth ts q)
theorem deps_depth : ∀ {n : Nat} (ts : List T), (∀ t ∈ ts, Dep n t) → PyData.depthAll (T.dats ts) ≤ n
  | _, [], _ => Nat.zero_le _
  | n, t :: ts, h => by
    simp only [T.dats, PyData.depthAll]
    exact Nat.max_le.mpr ⟨dep_depth t (h t List.mem_cons_self), deps_depth ts fun u hu => h u (List.mem_cons_of_mem _ hu)⟩
end
mutual
/-- its texts are texts of Python -/
def T.sok : T → Bool
  | .str s => PyData.strOk s
  | .tup ts => T.soks ts
  | _ => true
def T.soks : List T → Bool
  | [] => true
  | t :: ts => t.sok && T.soks ts
end
mutual
theorem can_dat : ∀ t : T, t.sok = true → t.dat.canLay0 = true
  | .non, _ => rfl
  | .bl _, _ => rfl
  | .int _, _ => rfl
  | .str _, h => h
  | .tup ts, h => can_dats ts h
theorem can_dats : ∀ ts : List T, T.soks ts = true → PyData.canLayAll0 (T.dats ts) = true
  | [], _ => rfl
  | t :: ts, h => by
    simp only [T.soks, Bool.and_eq_true] at h
    simp only [T.dats, PyData.canLayAll0, can_dat t h.1, can_dats ts h.2, Bool.and_self]
end
/-- data that == and in may look at -/
structure T.Eqb (t : T) : Prop where
  d : Dep 60 t
  s : t.sok = true
theorem soks_of : ∀ {ts : List T}, (∀ t ∈ ts, t.Eqb) → T.soks ts = true
  | [], _ => rfl
  | t :: ts, h => by simp only [T.soks, (h t List.mem_cons_self).s, soks_of fun u hu => h u (List.mem_cons_of_mem _ hu), Bool.and_self]
theorem shaped_dat {t : T} (h : t.Eqb) : SeqAt.shaped t.dat = true := by
  unfold SeqAt.shaped
  rw [can_dat t h.s, Bool.true_and, decide_eq_true]
  have := dep_depth t h.d
  omega
theorem shaped_list {ts : List T} (h : ∀ t ∈ ts, t.Eqb) : SeqAt.shaped (.list (T.dats ts)) = true := by
  unfold SeqAt.shaped
  have := deps_depth ts fun t ht => (h t ht).d
  rw [decide_eq_true (by simp only [PyData.depth]; omega)]
  simp only [PyData.canLay0, can_dats ts (soks_of h), Bool.and_self]
def rInT (K : PySem.W.Frag) (neg : Bool) : R2 := fun x y H Q => ∃ (t : T) (ts : List T) (a : Addr) (xs : List V), IsT H t x ∧ y = .ref a ∧ SqL K H a xs ∧ Paired (IsT H) ts xs ∧ t.Eqb ∧ (∀ u ∈ ts, u.Eqb) ∧ Q (.bl (if neg then !decide (t.nk ∈ ts.map T.nk) else decide (t.nk ∈ ts.map T.nk))) H
theorem any_dats (t : T) : ∀ ts : List T, ((T.dats ts).any fun z => PyData.eqv z t.dat) = decide (t.nk ∈ ts.map T.nk)
  | [] => by simp [T.dats]
  | u :: ts => by
    rw [T.dats, List.any_cons, any_dats t ts, eqv_dat]
    simp only [List.map_cons, List.mem_cons, Bool.decide_or]
    congr 1
    exact decide_eq_decide.mpr ⟨fun h => h.symm, fun h => h.symm⟩
section
variable {X : Cx}
theorem op_inT (hu : X.A.units + 65 < cLine) : OpR X (compareOp .In) (rInT X.K false) := by
  intro pins s σ H x y v u Q I rx ry h
  obtain ⟨t, ts, a, xs, it, rfl, hs, hp, dt, dts, q⟩ := h
  refine op_inD hu pins s σ H _ _ v u Q I rx ry ⟨_, T.dats ts, it.dp, .lst hs (paired_dp hp), shaped_dat dt, shaped_list dts, ?_⟩
  rw [any_dats]
  exact q
theorem op_notInT (hu : X.A.units + 65 < cLine) : OpR X (compareOp .NotIn) (rInT X.K true) := by
  intro pins s σ H x y v u Q I rx ry h
  obtain ⟨t, ts, a, xs, it, rfl, hs, hp, dt, dts, q⟩ := h
  refine op_notInD hu pins s σ H _ _ v u Q I rx ry ⟨_, T.dats ts, it.dp, .lst hs (paired_dp hp), shaped_dat dt, shaped_list dts, ?_⟩
  rw [any_dats]
  exact q
def rEqT (neg : Bool) : R2 := fun x y H Q => ∃ t u : T, IsT H t x ∧ IsT H u y ∧ t.Eqb ∧ u.Eqb ∧ Q (.bl (if neg then !decide (t.nk = u.nk) else decide (t.nk = u.nk))) H
theorem op_eqT (hu : X.A.units + 65 < cLine) : OpR X (compareOp .Eq) (rEqT false) := by
  intro pins s σ H x y v u Q I rx ry h
  obtain ⟨t, t2, it, it2, dt, dt2, q⟩ := h
  refine op_eqD (by omega) pins s σ H _ _ v u Q I rx ry ⟨_, _, it.dp, it2.dp, shaped_dat dt, shaped_dat dt2, ?_⟩
  rw [eqv_dat]
  exact q
theorem op_neT (hu : X.A.units + 65 < cLine) : OpR X (compareOp .NotEq) (rEqT true) := by
  intro pins s σ H x y v u Q I rx ry h
  obtain ⟨t, t2, it, it2, dt, dt2, q⟩ := h
  refine op_neD (by omega) pins s σ H _ _ v u Q I rx ry ⟨_, _, it.dp, it2.dp, shaped_dat dt, shaped_dat dt2, ?_⟩
  rw [eqv_dat]
  exact q
end
end Pw
namespace Pw
open PySem PySem.Spec PyProof.Rows L2
theorem sl_take {K : PySem.W.Frag} {H : Hp} {a : Addr} {xs : List V} {n : Nat} {Q : VK} (ha : H a = some (.tup xs)) (q : ∀ (c : Addr) (H' : Hp), Oth [] H H' → H' c = some (.tup (xs.take n)) → Q (.ref c) H') : rSlA K (.ref a) none (some (n : Int)) H Q := by
  refine ⟨a, xs, rfl, SqT.of ha, fun h => ?_, fun h p hp => ?_⟩
  · have z := h.2
    rw [HT.sIx_nat] at z
    exact q a H Oth.refl (by rw [List.take_of_length_le (by omega)]; exact ha)
  · refine q p _ (Oth.new hp) ?_
    rw [upd_same]
    unfold cutV
    rw [HT.sIx_none, HT.sIx_nat, List.drop_zero, Nat.sub_zero]
    by_cases c : n ≤ xs.length
    · rw [Nat.min_eq_left c]
    · rw [Nat.min_eq_right (by omega), List.take_of_length_le (Nat.le_refl _), List.take_of_length_le (by omega)]
theorem sl_drop {K : PySem.W.Frag} {H : Hp} {a : Addr} {xs : List V} {n : Nat} {Q : VK} (ha : H a = some (.tup xs)) (hn : n ≤ xs.length) (q : ∀ (c : Addr) (H' : Hp), Oth [] H H' → H' c = some (.tup (xs.drop n)) → Q (.ref c) H') : rSlA K (.ref a) (some (n : Int)) none H Q := by
  refine ⟨a, xs, rfl, SqT.of ha, fun h => ?_, fun h p hp => ?_⟩
  · have z := h.1
    rw [HT.sIx_nat] at z
    have : n = 0 := by omega
    subst this
    exact q a H Oth.refl (by rw [List.drop_zero]; exact ha)
  · refine q p _ (Oth.new hp) ?_
    rw [upd_same]
    unfold cutV
    rw [HT.sIx_none, HT.sIx_nat, Nat.min_eq_left hn]
    rw [List.take_of_length_le (by rw [List.length_drop]; omega)]
theorem paired_take {H : Hp} : ∀ {ts : List T} {xs : List V}, Paired (IsT H) ts xs → ∀ n, Paired (IsT H) (ts.take n) (xs.take n)
  | _, _, .nil, n => by rw [List.take_nil, List.take_nil]; exact .nil
  | _, _, .cons h t, 0 => .nil
  | _, _, .cons h t, n + 1 => .cons h (paired_take t n)
/-- every template is a tuple that begins with its kind -/
def Tp.kind : Tp → Str
  | .text _ => "text" | .show _ => "show" | .box .. => "box" | .when .. => "when" | .each .. => "each" | .child .. => "child" | .part _ => "part" | .input .. => "input"
theorem Tp.kindAt {H : Hp} {v : V} : ∀ (t : Tp), IsT H t.toT v → ∃ a r, v = .ref a ∧ H a = some (.tup (.str t.kind :: r))
  | .text _, h => by obtain ⟨a, _, x, rfl, e, p, _⟩ := IsT.inv2 h; rw [p.of_str] at e; exact ⟨a, _, rfl, e⟩
  | .show _, h => by obtain ⟨a, _, x, rfl, e, p, _⟩ := IsT.inv2 h; rw [p.of_str] at e; exact ⟨a, _, rfl, e⟩
  | .box .., h => by obtain ⟨a, _, x, y, z, u, rfl, e, p, _⟩ := IsT.inv5 h; rw [p.of_str] at e; exact ⟨a, _, rfl, e⟩
  | .when .., h => by obtain ⟨a, _, x, y, z, rfl, e, p, _⟩ := IsT.inv4 h; rw [p.of_str] at e; exact ⟨a, _, rfl, e⟩
  | .each .., h => by obtain ⟨a, _, x, y, rfl, e, p, _⟩ := IsT.inv3 h; rw [p.of_str] at e; exact ⟨a, _, rfl, e⟩
  | .child .., h => by obtain ⟨a, _, x, y, z, rfl, e, p, _⟩ := IsT.inv4 h; rw [p.of_str] at e; exact ⟨a, _, rfl, e⟩
  | .part _, h => by obtain ⟨a, _, x, rfl, e, p, _⟩ := IsT.inv2 h; rw [p.of_str] at e; exact ⟨a, _, rfl, e⟩
  | .input .., h => by obtain ⟨a, _, x, y, rfl, e, p, _⟩ := IsT.inv3 h; rw [p.of_str] at e; exact ⟨a, _, rfl, e⟩
/-- when and each are no nodes -/
def Tp.node : Tp → Bool
  | .when .. => false | .each .. => false | _ => true
theorem Tp.dis1_node (t : Tp) (h : t.node = true) (c : Sc) (addr reps : List Int) : t.dis1 c addr reps = [⟨t.wish c addr reps, .at addr reps, t, c.index⟩] ∧ t.lk1 c = keyLooks c t.key? := by
  cases t <;> first | exact ⟨rfl, rfl⟩ | cases h
def Nm.short : Nm → Prop
  | .at t i => t.length ≤ 1000 ∧ i.length ≤ 1000
  | .key t _ => t.length ≤ 1000
  | .part _ => True
theorem ints_dep {ns : List Int} (h : ns.length ≤ 1000) (n : Nat) : Dep (n + 2) (intsT ns) := by
  refine .tup _ _ (by rw [List.length_map]; omega) fun t ht => ?_
  obtain ⟨i, _, rfl⟩ := List.mem_map.mp ht
  exact .int _ _
theorem Nm.dep {n : Nm} (h : n.short) (k : Nat) : Dep (k + 3) n.toT := by
  cases n with
  | «at» t i => exact .tup _ _ (by simp) (by simp only [List.mem_cons, List.not_mem_nil, or_false, forall_eq_or_imp, forall_eq]; exact ⟨.str _ _, ints_dep h.1 _, ints_dep h.2 _⟩)
  | key t v => exact .tup _ _ (by simp) (by simp only [List.mem_cons, List.not_mem_nil, or_false, forall_eq_or_imp, forall_eq]; exact ⟨.str _ _, ints_dep h _, .int _ _⟩)
  | part k => exact .tup _ _ (by simp) (by simp only [List.mem_cons, List.not_mem_nil, or_false, forall_eq_or_imp, forall_eq]; exact ⟨.str _ _, .int _ _⟩)
theorem ints_sok : ∀ ns : List Int, T.soks (ns.map .int) = true
  | [] => rfl
  | n :: ns => by simp only [List.map_cons, T.soks, ints_sok ns]; rfl
theorem Nm.sok (n : Nm) : n.toT.sok = true := by
  cases n with
  | «at» t i => simp only [Nm.toT, intsT, T.sok, T.soks, ints_sok]; decide +kernel
  | key t v => simp only [Nm.toT, intsT, T.sok, T.soks, ints_sok]; decide +kernel
  | part k => simp only [Nm.toT, T.sok, T.soks]; decide +kernel
theorem Nm.eqb {n : Nm} (h : n.short) : n.toT.Eqb := ⟨n.dep h 57, n.sok⟩
theorem nk_depths_int : ∀ ns : List Int, NestedKey.depthAll (T.nks (ns.map .int)) = 0
  | [] => rfl
  | n :: ns => by simp only [List.map_cons, T.nks, T.nk, NestedKey.depthAll, NestedKey.depth, nk_depths_int ns]; rfl
theorem Nm.nk_depth (n : Nm) : n.toT.nk.depth ≤ 8 := by
  cases n <;> simp [Nm.toT, intsT, T.nk, T.nks, NestedKey.depth, NestedKey.depthAll, nk_depths_int]
theorem Nm.nk_ref {H : Hp} {n : Nm} {v : V} (h : IsT H n.toT v) : ∃ b, v = .ref b ∧ NKey H n.toT.nk b := by
  have z := h
  cases n with
  | «at» t i => obtain ⟨b, xs, rfl, _⟩ := h.inv; exact ⟨b, rfl, _, rfl, z, Nm.nk_depth _⟩
  | key t i => obtain ⟨b, xs, rfl, _⟩ := h.inv; exact ⟨b, rfl, _, rfl, z, Nm.nk_depth _⟩
  | part t => obtain ⟨b, xs, rfl, _⟩ := h.inv; exact ⟨b, rfl, _, rfl, z, Nm.nk_depth _⟩
theorem mem_nks {n : Nm} {tk : List Nm} : (n.toT.nk ∈ (tk.map Nm.toT).map T.nk) ↔ n ∈ tk := by
  rw [List.map_map]
  constructor
  · intro h
    obtain ⟨m, hm, e⟩ := List.mem_map.mp h
    rw [← Nm.nk_inj e]
    exact hm
  · intro h
    exact List.mem_map.mpr ⟨n, h, rfl⟩
def spByKey : Sp := fun vs H Q _ => ∃ (key : Option E) (c : Sc) (addr reps : List Int) (vk vo vc : V) (l : Addr) (L : List V), vs = [vk, vo, vc, .ref l] ∧ IsT H (keyT key) vk ∧ IsT H (Nm.at addr reps).toT vo ∧ IsT H c.toT vc ∧ H l = some (.lst L) ∧
  (∀ e ∈ key, e.depth ≤ 3) ∧ L.length + ksz key ≤ 100000 ∧
  ∀ v H', IsT H' (keyNm c addr reps key).toT v → H' l = some (.lst (L ++ (keyLooks c key).map V.int)) → Oth [l] H H' → Q v H'
def spWished : Sp := fun vs H Q _ => ∃ (t : Tp) (c : Sc) (addr reps : List Int) (vt vo vc : V) (l : Addr) (L : List V), vs = [vt, vo, vc, .ref l] ∧ IsT H t.toT vt ∧ t.node = true ∧ IsT H (Nm.at addr reps).toT vo ∧ IsT H c.toT vc ∧ H l = some (.lst L) ∧
  t.Fine ∧ L.length + t.wt ≤ 100000 ∧
  ∀ v H', IsT H' (t.wish c addr reps).toT v → H' l = some (.lst (L ++ (keyLooks c t.key?).map V.int)) → Oth [l] H H' → Q v H'
def spDis (n : Nat) : Sp := fun vs H Q _ => ∃ (ts : List Tp) (c : Sc) (be re : List Int) (vt vb vr vc : V) (l : Addr) (L : List V), vs = [vt, vb, vr, vc, .ref l] ∧ IsT H (.tup (Tp.toTs ts)) vt ∧ IsT H (intsT be) vb ∧ IsT H (intsT re) vr ∧ IsT H c.toT vc ∧ H l = some (.lst L) ∧
  Tp.deps ts < n ∧ Tp.Fines ts ∧ L.length + Tp.wts ts ≤ 50000 ∧ be.length + 2 * n ≤ 1000 ∧ re.length + n ≤ 1000 ∧
  ∀ (p : Addr) (H' : Hp) (rs : List V), H p = none → H' p = some (.lst rs) → Paired (IsT H') ((Tp.dis c be re 0 ts).map Dr.toT) rs → H' l = some (.lst (L ++ (Tp.lks c ts).map V.int)) → Oth [l] H H' → Q (.ref p) H'
def itemT (x : Nm × Tp × Int) : T := .tup [x.1.toT, x.2.1.toT, .int x.2.2]
def spLayOut (n : Nat) : Sp := fun vs H Q _ => ∃ (ts : List Tp) (c : Sc) (vt vc : V) (l : Addr) (L : List V), vs = [vt, vc, .ref l] ∧ IsT H (.tup (Tp.toTs ts)) vt ∧ IsT H c.toT vc ∧ H l = some (.lst L) ∧
  Tp.deps ts < n ∧ Tp.Fines ts ∧ L.length + Tp.wts ts ≤ 50000 ∧
  ∀ (v : V) (H' : Hp), IsT H' (.tup ((named [] (Tp.dis c [] [] 0 ts)).map itemT)) v → H' l = some (.lst (L ++ (Tp.lks c ts).map V.int)) → Oth [l] H H' → Q v H'
def prefT (ts : List T) : T := .tup ((List.range ts.length).map fun k => .tup (ts.take k))
def spPartsOf : Sp := fun vs H Q _ => ∃ (ts : List T) (v : V), vs = [v] ∧ IsT H (.tup ts) v ∧ ts.length ≤ 1000 ∧
  ∀ r H', IsT H' (prefT ts) r → Oth [] H H' → Q r H'
/-- what is taken stands in the dict -/
def Takes' (kvs : List (NestedKey × V)) (tk : List Nm) : Prop := ∀ n : Nm, (valV kvs n.toT.nk).isSome = decide (n ∈ tk)
theorem Takes'.put {kvs : List (NestedKey × V)} {tk : List Nm} (h : Takes' kvs tk) (n : Nm) (v : V) : Takes' (putK kvs n.toT.nk v) (tk ++ [n]) := fun m => by
  rw [valV_put]
  by_cases e : m.toT.nk = n.toT.nk
  · rw [if_pos e, Nm.nk_inj e]
    simp
  · rw [if_neg e, h m]
    have : m ≠ n := fun z => e (by rw [z])
    simp [this]
end Pw
namespace Pw
open PySem PySem.Spec PyProof.Rows L2
theorem wts_take {ts : List Tp} {i : Nat} {t : Tp} (h : ts[i]? = some t) : Tp.wts (ts.take i) + t.wt ≤ Tp.wts ts := by
  have hi : i < ts.length := (List.getElem?_eq_some_iff.mp h).1
  have e3 : t = ts[i] := by rw [List.getElem?_eq_getElem hi] at h; exact (Option.some.inj h).symm
  have e1 : ts = ts.take i ++ t :: ts.drop (i + 1) := by rw [e3, ← List.drop_eq_getElem_cons hi, List.take_append_drop]
  have e4 := congrArg Tp.wts e1
  rw [wts_app, Tp.wts] at e4
  omega
theorem node_kind {t : Tp} (h : t.node = true) : ("when" : Str) ≠ t.kind ∧ ("each" : Str) ≠ t.kind := by
  cases t <;> first | (exact Bool.noConfusion h) | exact ⟨by simp only [Tp.kind]; decide, by simp only [Tp.kind]; decide⟩
theorem Sc.parts {H : Hp} {c : Sc} {v : V} (h : IsT H c.toT v) : ∃ sc ac ap as, v = .ref sc ∧ H sc = some (.tup [.str "scope", .ref ac, .ref ap, .ref as, .int c.index]) ∧ H ac = some (.tup (c.cells.map V.int)) ∧ H ap = some (.tup (c.props.map V.int)) ∧ H as = some (.tup (c.store.map V.int)) := by
  obtain ⟨sc, _, v1, v2, v3, _, rfl, hsc, r0, r1, r2, r3, r4⟩ := IsT.inv5 h
  obtain rfl := r0.of_str
  obtain rfl := r4.of_int
  obtain ⟨ac, rfl, hac⟩ := r1.ints
  obtain ⟨ap, rfl, hap⟩ := r2.ints
  obtain ⟨as, rfl, has⟩ := r3.ints
  exact ⟨sc, ac, ap, as, rfl, hsc, hac, hap, has⟩
theorem Sc.mk' {H : Hp} {c : Sc} {sc ac ap as : Addr} (hsc : H sc = some (.tup [.str "scope", .ref ac, .ref ap, .ref as, .int c.index])) (hac : H ac = some (.tup (c.cells.map V.int))) (hap : H ap = some (.tup (c.props.map V.int))) (has : H as = some (.tup (c.store.map V.int))) : IsT H c.toT (.ref sc) :=
  .mk5 hsc (.str _) (.mkI hac) (.mkI hap) (.mkI has) (.int _)
theorem flat_succ {α : Type} (f : Nat → List α) (j : Nat) : (List.range (j + 1)).flatMap f = (List.range j).flatMap f ++ f j := by
  rw [List.range_succ, List.flatMap_append]
  simp
theorem dis_take {c : Sc} {be re : List Int} {ts : List Tp} {i : Nat} {t : Tp} (h : ts[i]? = some t) : Tp.dis c be re 0 (ts.take (i + 1)) = Tp.dis c be re 0 (ts.take i) ++ t.dis1 c (be ++ [(i : Int)]) re := by
  have hi : i < ts.length := (List.getElem?_eq_some_iff.mp h).1
  rw [take_snoc h, Tp.dis_app]
  have hl : (ts.take i).length = i := by rw [List.length_take]; omega
  simp only [Tp.dis, List.append_nil, hl, Nat.zero_add]
theorem lks_take {c : Sc} {ts : List Tp} {i : Nat} {t : Tp} (h : ts[i]? = some t) : Tp.lks c (ts.take (i + 1)) = Tp.lks c (ts.take i) ++ t.lk1 c := by
  rw [take_snoc h, Tp.lks_app]
  simp only [Tp.lks, List.append_nil]
theorem take_map {α β : Type} {f : α → β} {l : List α} {i : Nat} {x : β} (h : (l.map f)[i]? = some x) : ∃ u, l[i]? = some u ∧ f u = x := by
  rw [List.getElem?_map] at h
  cases g : l[i]? with
  | none => rw [g] at h; cases h
  | some u => rw [g] at h; exact ⟨u, rfl, Option.some.inj h⟩
theorem ifx {b : Bool} {σ : L2.St} {H : Hp} {Q : VK} {i j : Nat} {v1 v2 : V} (h1 : σ[i]? = some (some v1)) (h2 : σ[j]? = some (some v2)) (q : Q (if b = true then v1 else v2) H) : if b = true then tVar i σ H Q else tVar j σ H Q := by
  cases b with
  | true => exact iteT ⟨_, h1, q⟩
  | false => exact iteF ⟨_, h2, q⟩
theorem named_take {ds : List Dr} {i : Nat} {d : Dr} (h : ds[i]? = some d) : named [] (ds.take (i + 1)) = named [] (ds.take i) ++ [(if d.wish ∈ (named [] (ds.take i)).map (·.1) then d.other else d.wish, d.tp, d.idx)] := by
  rw [take_snoc h, named_app]
  simp [named]
theorem wt_pos (t : Tp) : 1 ≤ t.wt := by cases t <;> simp [Tp.wt]
theorem wts_len : ∀ ts : List Tp, ts.length ≤ Tp.wts ts
  | [] => Nat.le_refl _
  | t :: ts => by have := wt_pos t; have := wts_len ts; simp only [List.length_cons, Tp.wts]; omega
theorem Room.units65 {k : Nat} {A : Around} (r : Room k A) : A.units + 65 < cLine := by have := r.un; omega
end Pw
namespace Pw
open PySem PySem.Spec PyProof.Rows L2
def LItem (H : Hp) (x : Nm × Tp × Int) (v : V) : Prop := ∃ a n r, v = .ref a ∧ H a = some (.lst [n, r, .int x.2.2]) ∧ IsT H x.1.toT n ∧ IsT H x.2.1.toT r
def Fresh (H : Hp) (vs : List V) : Prop := ∀ v ∈ vs, ∃ a, v = .ref a ∧ H a = none
abbrev LItems (H : Hp) : List (Nm × Tp × Int) → List V → Prop := Paired (LItem H)
theorem LItem.oth {H H' : Hp} {S : List Addr} {x : Nm × Tp × Int} {v : V} (h : LItem H x v) (o : Oth S H H') (hn : ∀ a ∈ S, v ≠ .ref a) : LItem H' x v := by
  obtain ⟨a, n, r, rfl, e, i1, i2⟩ := h
  exact ⟨a, n, r, rfl, o.keep a _ (fun z => hn a z rfl) e, i1.oth o, i2.oth o⟩
theorem LItems.oth {H H' : Hp} {S : List Addr} (o : Oth S H H') : ∀ {xs : List (Nm × Tp × Int)} {vs : List V}, LItems H xs vs → (∀ v ∈ vs, ∀ a ∈ S, v ≠ .ref a) → LItems H' xs vs
  | _, _, .nil, _ => .nil
  | _, _, .cons h t, hn => .cons (h.oth o (hn _ List.mem_cons_self)) (LItems.oth o t fun v hv => hn v (List.mem_cons_of_mem _ hv))
theorem LItems.len {H : Hp} : ∀ {xs : List (Nm × Tp × Int)} {vs : List V}, LItems H xs vs → vs.length = xs.length
  | _, _, .nil => rfl
  | _, _, .cons _ t => congrArg (· + 1) (LItems.len t)
theorem LItems.get {H : Hp} : ∀ {xs : List (Nm × Tp × Int)} {vs : List V}, LItems H xs vs → ∀ {i : Nat} {v : V}, vs[i]? = some v → ∃ x, xs[i]? = some x ∧ LItem H x v
  | _, _, .cons h t, 0, v, e => by cases e; exact ⟨_, rfl, h⟩
  | _, _, .cons h t, i + 1, v, e => LItems.get t e
theorem Fresh.ne {H : Hp} {vs : List V} {b : Addr} {o : HO} (h : Fresh H vs) (hb : H b = some o) : ∀ v ∈ vs, v ≠ .ref b := fun v hv z => by
  obtain ⟨a, rfl, e⟩ := h v hv
  cases z
  rw [hb] at e
  cases e
theorem LItems.ne_self {H : Hp} {xs : List (Nm × Tp × Int)} {vs : List V} {r : Addr} {H0 : Hp} (h : LItems H xs vs) (hr : H r = some (.lst vs)) (f : Fresh H0 vs) : ∀ v ∈ vs, v ≠ .ref r := fun v hv z => by
  subst z
  obtain ⟨i, hi, e⟩ := List.getElem_of_mem hv
  obtain ⟨x, _, a, n, q, ea, e2, _⟩ := h.get (List.getElem?_eq_getElem hi |>.trans (by rw [e]))
  cases ea
  rw [hr] at e2
  injection e2 with e2
  injection e2 with e2
  obtain ⟨a, ha, _⟩ := f (.int x.2.2) (by rw [e2]; simp)
  cases ha
theorem names_app (tk : List Nm) (a r : List Dr) : tk ++ (lawNamed tk (a ++ r)).map (·.1) = tk ++ (lawNamed tk a).map (·.1) ++ (lawNamed (tk ++ (lawNamed tk a).map (·.1)) r).map (·.1) := by
  rw [lawNamed_app, List.map_append, List.append_assoc]
structure LSt (H : Hp) (l nl : Addr) (L : List V) (tk : List Nm) (H1 : Hp) (r : Addr) (ds : List Dr) (lk : List Int) : Prop where
  rn : H r = none
  o : Oth [l, nl] H H1
  ex : ∃ rs nL, H1 r = some (.lst rs) ∧ Fresh H rs ∧ LItems H1 (lawNamed tk ds) rs ∧ H1 nl = some (.lst nL) ∧ Paired (IsT H1) ((tk ++ (lawNamed tk ds).map (·.1)).map Nm.toT) nL
  lk : H1 l = some (.lst (L ++ lk.map V.int))
  sh : ∀ n ∈ tk ++ (lawNamed tk ds).map (·.1), n.short
section
variable {H H1 H2 H3 : Hp} {l nl r p q : Addr} {L : List V} {tk : List Nm} {ds ds2 : List Dr} {lk lk2 : List Int}
theorem LSt.ln (s : LSt H l nl L tk H1 r ds lk) (hl : H l ≠ none) : r ≠ l := fun e => hl (e ▸ s.rn)
theorem LSt.nn (s : LSt H l nl L tk H1 r ds lk) (hl : H nl ≠ none) : r ≠ nl := fun e => hl (e ▸ s.rn)
theorem LSt.back (s : LSt H l nl L tk H1 r ds lk) {a : Addr} (h : H1 a = none) : H a = none := by
  obtain ⟨rs, nL, _, _, _, e, _⟩ := s.ex
  cases h' : H a with
  | none => rfl
  | some o =>
    by_cases z : a ∈ [l, nl]
    · simp only [List.mem_cons, List.not_mem_nil, or_false] at z
      rcases z with rfl | rfl
      · rw [s.lk] at h; cases h
      · rw [e] at h; cases h
    · rw [s.o.keep a o z h'] at h; cases h
theorem LSt.oth (s : LSt H l nl L tk H1 r ds lk) (o : Oth [] H1 H2) : LSt H l nl L tk H2 r ds lk := by
  obtain ⟨rs, nL, e1, f, it, e2, pn⟩ := s.ex
  exact ⟨s.rn, s.o.trans (o.mono (by simp)), ⟨rs, nL, o.keep _ _ (by simp) e1, f, it.oth o (by simp), o.keep _ _ (by simp) e2, paired_oth pn o⟩, o.keep _ _ (by simp) s.lk, s.sh⟩
theorem LSt.look (s : LSt H l nl L tk H1 r ds lk) (hl : H l ≠ none) (hne : l ≠ nl) (o : Oth [l] H1 H2) (e : H2 l = some (.lst (L ++ lk.map V.int ++ lk2.map V.int))) : LSt H l nl L tk H2 r ds (lk ++ lk2) := by
  obtain ⟨rs, nL, e1, f, it, e2, pn⟩ := s.ex
  obtain ⟨ol, hol⟩ : ∃ x, H l = some x := by
    cases h : H l with
    | none => exact absurd h hl
    | some x => exact ⟨x, rfl⟩
  exact ⟨s.rn, s.o.trans (o.mono (by simp)), ⟨rs, nL, o.keep _ _ (by simp [s.ln hl]) e1, f, it.oth o (fun v hv a ha => by rw [List.mem_singleton.mp ha]; exact f.ne hol v hv), o.keep _ _ (by simp [hne.symm]) e2, paired_oth pn o⟩, by rw [e, List.map_append, List.append_assoc], s.sh⟩
/-- behind a call for more rows, these added -/
theorem LSt.cat (s : LSt H l nl L tk H1 r ds lk) (hl : H l ≠ none) (hnl : H nl ≠ none) {rs rs2 nL2 : List V} (hr : H1 r = some (.lst rs)) (hfr : Fresh H rs) (hit : LItems H1 (lawNamed tk ds) rs)
    (f2 : Fresh H1 rs2) (it2 : LItems H2 (lawNamed (tk ++ (lawNamed tk ds).map (·.1)) ds2) rs2) (hl2 : H2 l = some (.lst (L ++ lk.map V.int ++ lk2.map V.int)))
    (hnl2 : H2 nl = some (.lst nL2)) (pn2 : Paired (IsT H2) ((tk ++ (lawNamed tk ds).map (·.1) ++ (lawNamed (tk ++ (lawNamed tk ds).map (·.1)) ds2).map (·.1)).map Nm.toT) nL2)
    (sh2 : ∀ n ∈ (lawNamed (tk ++ (lawNamed tk ds).map (·.1)) ds2).map (·.1), n.short) (o : Oth [l, nl] H1 H2) (hq : H2 q = none) :
    LSt H l nl L tk (upd H2 q (.lst (rs ++ rs2))) q (ds ++ ds2) (lk ++ lk2) := by
  have on := Oth.new (S := []) (o := .lst (rs ++ rs2)) hq
  obtain ⟨ol, hol⟩ : ∃ x, H l = some x := by
    cases h : H l with
    | none => exact absurd h hl
    | some x => exact ⟨x, rfl⟩
  obtain ⟨onl, honl⟩ : ∃ x, H nl = some x := by
    cases h : H nl with
    | none => exact absurd h hnl
    | some x => exact ⟨x, rfl⟩
  have hq1 : H1 q = none := by
    cases h : H1 q with
    | none => rfl
    | some x =>
      by_cases z : q ∈ [l, nl]
      · simp only [List.mem_cons, List.not_mem_nil, or_false] at z
        rcases z with rfl | rfl
        · rw [hl2] at hq; cases hq
        · rw [hnl2] at hq; cases hq
      · rw [o.keep q x z h] at hq; cases hq
  have hlq : l ≠ q := ne_of_none hl2 hq
  have hnq : nl ≠ q := ne_of_none hnl2 hq
  refine ⟨s.back hq1, s.o.trans (o.trans (on.mono (by simp))), ⟨rs ++ rs2, nL2, upd_same, ?_, ?_, on.keep _ _ (by simp) hnl2, ?_⟩, ?_, ?_⟩
  · intro v hv
    rcases List.mem_append.mp hv with h | h
    · exact hfr v h
    · obtain ⟨a, rfl, e⟩ := f2 v h
      exact ⟨a, rfl, s.back e⟩
  · rw [lawNamed_app]
    refine Paired.appendP ((hit.oth o fun v hv a ha => ?_).oth on (by simp)) (it2.oth on (by simp))
    simp only [List.mem_cons, List.not_mem_nil, or_false] at ha
    rcases ha with rfl | rfl
    · exact hfr.ne hol v hv
    · exact hfr.ne honl v hv
  · rw [names_app]
    exact paired_oth pn2 on
  · rw [List.map_append, ← List.append_assoc]
    exact on.keep _ _ (by simp) hl2
  · rw [names_app]
    intro n hn
    rcases List.mem_append.mp hn with h | h
    · exact s.sh n h
    · exact sh2 n h
/-- one more -/
theorem LSt.one (s : LSt H l nl L tk H1 r ds lk) (hl : H l ≠ none) (hnl : H nl ≠ none) (hne : l ≠ nl) {rs nL : List V} {d : Dr} {nv rv : V} (hr : H1 r = some (.lst rs)) (hfr : Fresh H rs) (hit : LItems H1 (lawNamed tk ds) rs)
    (hnL : H1 nl = some (.lst nL)) (pn : Paired (IsT H1) ((tk ++ (lawNamed tk ds).map (·.1)).map Nm.toT) nL) (tn : IsT H1 (lawName (tk ++ (lawNamed tk ds).map (·.1)) d).toT nv) (tr : IsT H1 d.tp.toT rv)
    (hs : (lawName (tk ++ (lawNamed tk ds).map (·.1)) d).short)
    (hq : (upd H1 nl (.lst (nL ++ [nv]))) q = none) :
    LSt H l nl L tk (upd (upd (upd H1 nl (.lst (nL ++ [nv]))) q (.lst [nv, rv, .int d.idx])) r (.lst (rs ++ [.ref q]))) r (ds ++ [d]) lk := by
  have o1 : Oth [nl] H1 (upd H1 nl (.lst (nL ++ [nv]))) := Oth.put (by simp) hnL
  have o2 := Oth.new (S := []) (o := .lst [nv, rv, .int d.idx]) hq
  have nrn := s.nn hnl
  have nrl := s.ln hl
  have hr2 : (upd (upd H1 nl (.lst (nL ++ [nv]))) q (.lst [nv, rv, .int d.idx])) r = some (.lst rs) := o2.keep _ _ (by simp) (o1.keep _ _ (by simp [nrn]) hr)
  have o3 : Oth [r] _ (upd (upd (upd H1 nl (.lst (nL ++ [nv]))) q (.lst [nv, rv, .int d.idx])) r (.lst (rs ++ [.ref q]))) := Oth.put (by simp) hr2
  have nqr : q ≠ r := fun e => by
    rw [← e] at hr
    by_cases z : q = nl
    · rw [z, upd_same] at hq; cases hq
    · rw [upd_ne z, hr] at hq; cases hq
  have nqn : nl ≠ q := fun e => by rw [← e, upd_same] at hq; cases hq
  have hq1 : H1 q = none := by rw [upd_ne nqn.symm] at hq; exact hq
  have nql : l ≠ q := ne_of_none s.lk hq1
  obtain ⟨onl, honl⟩ : ∃ x, H nl = some x := by
    cases h : H nl with
    | none => exact absurd h hnl
    | some x => exact ⟨x, rfl⟩
  have self := hit.ne_self hr hfr
  refine ⟨s.rn, ?_, ⟨rs ++ [.ref q], nL ++ [nv], upd_same, ?_, ?_, ?_, ?_⟩, ?_, ?_⟩
  · have z : Oth [l, nl, r] H (upd (upd (upd H1 nl (.lst (nL ++ [nv]))) q (.lst [nv, rv, .int d.idx])) r (.lst (rs ++ [.ref q]))) :=
      (s.o.mono (by simp)).trans ((o1.mono (by simp)).trans ((o2.mono (by simp)).trans (o3.mono (by simp))))
    exact Oth.drop (p := r) (z.mono (by simp)) s.rn
  · intro v hv
    rcases List.mem_append.mp hv with h | h
    · exact hfr v h
    · rw [List.mem_singleton.mp h]
      exact ⟨q, rfl, s.back hq1⟩
  · rw [lawNamed_app]
    refine Paired.appendP (((hit.oth o1 fun v hv a ha => by rw [List.mem_singleton.mp ha]; exact hfr.ne honl v hv).oth o2 (by simp)).oth o3 fun v hv a ha => by rw [List.mem_singleton.mp ha]; exact self v hv) ?_
    exact .cons ⟨q, nv, rv, rfl, o3.keep _ _ (by simp [nqr]) upd_same, ((tn.oth o1).oth o2).oth o3, ((tr.oth o1).oth o2).oth o3⟩ .nil
  · exact o3.keep _ _ (by simp [nrn.symm]) (o2.keep _ _ (by simp) upd_same)
  · rw [names_app, List.map_append]
    exact paired_app (paired_oth (paired_oth (paired_oth pn o1) o2) o3) (.cons (((tn.oth o1).oth o2).oth o3) .nil)
  · exact o3.keep _ _ (by simp [nrl.symm]) (o2.keep _ _ (by simp) (o1.keep _ _ (by simp [hne]) s.lk))
  · rw [names_app]
    intro n hn
    rcases List.mem_append.mp hn with h | h
    · exact s.sh n h
    · simp only [lawNamed, List.map_cons, List.map_nil, List.mem_singleton] at h
      rw [h]
      exact hs
end
def spLawLay (n : Nat) : Sp := fun vs H Q _ => ∃ (ts : List Tp) (c : Sc) (be re : List Int) (tk : List Nm) (vt va vr : V) (s sa sp ss l nl : Addr) (L nL : List V), vs = [vt, .ref s, .ref l, va, vr, .ref nl] ∧ IsT H (.tup (Tp.toTs ts)) vt ∧ IsT H (intsT be) va ∧ IsT H (intsT re) vr ∧
  H s = some (.lst [.ref sa, .ref sp, .ref ss, .int c.index]) ∧ H sa = some (.tup (c.cells.map V.int)) ∧ H sp = some (.tup (c.props.map V.int)) ∧ H ss = some (.tup (c.store.map V.int)) ∧ H l = some (.lst L) ∧ H nl = some (.lst nL) ∧ Paired (IsT H) (tk.map Nm.toT) nL ∧ (∀ n ∈ tk, n.short) ∧
  s ≠ l ∧ s ≠ nl ∧ l ≠ nl ∧ Tp.deps ts < n ∧ Tp.Fines ts ∧ L.length + Tp.wts ts ≤ 50000 ∧ nL.length + Tp.wts ts ≤ 50000 ∧ be.length + 2 * n ≤ 900 ∧ re.length + n ≤ 900 ∧
  ∀ (p : Addr) (H' : Hp) (rs nL' : List V), H p = none → H' p = some (.lst rs) → Fresh H rs → LItems H' (lawNamed tk (Tp.dis c be re 0 ts)) rs → H' l = some (.lst (L ++ (Tp.lks c ts).map V.int)) → H' nl = some (.lst nL') →
    Paired (IsT H') ((tk ++ (lawNamed tk (Tp.dis c be re 0 ts)).map (·.1)).map Nm.toT) nL' → (∀ n ∈ (lawNamed tk (Tp.dis c be re 0 ts)).map (·.1), n.short) → Oth [l, nl] H H' → Q (.ref p) H'
theorem lay_sub {n : Nat} {H H5 : Hp} {l nl r : Addr} {L : List V} {tk : List Nm} {ds : List Dr} {lk : List Int} (st : LSt H l nl L tk H5 r ds lk) (hln : H l ≠ none) (hnn : H nl ≠ none) (nln : l ≠ nl)
    {bs : List Tp} {c : Sc} {be re : List Int} {vb va vr : V} {s sa sp ss : Addr} {Q : VK} {E : XK} (tb : IsT H5 (.tup (Tp.toTs bs)) vb) (ta : IsT H5 (intsT be) va) (tr : IsT H5 (intsT re) vr)
    (esc : H5 s = some (.lst [.ref sa, .ref sp, .ref ss, .int c.index])) (esa : H5 sa = some (.tup (c.cells.map V.int))) (esp : H5 sp = some (.tup (c.props.map V.int))) (ess : H5 ss = some (.tup (c.store.map V.int))) (nsl : s ≠ l) (nsn : s ≠ nl)
    (hd : Tp.deps bs < n) (hf : Tp.Fines bs) (hz : L.length + lk.length + Tp.wts bs ≤ 50000) (hzn : tk.length + ds.length + Tp.wts bs ≤ 50000) (hbe : be.length + 2 * n ≤ 900) (hre : re.length + n ≤ 900)
    (q : ∀ (p : Addr) (H9 : Hp), LSt H l nl L tk H9 p (ds ++ Tp.dis c be re 0 bs) (lk ++ Tp.lks c bs) → Oth [l, nl] H5 H9 → Q (.ref p) H9) :
    spLawLay n [vb, .ref s, .ref l, va, vr, .ref nl] H5 (fun y H7 => rCat (.ref r) y H7 Q) E := by
  obtain ⟨rs, nL, er, fr, it, enl, pn⟩ := st.ex
  have lnL : nL.length = tk.length + ds.length := by rw [(paired_get pn).1, List.length_map, List.length_append, List.length_map, lawNamed_len]
  have lrs : rs.length = ds.length := by rw [it.len, lawNamed_len]
  refine ⟨bs, c, be, re, _, _, _, _, s, sa, sp, ss, l, nl, _, nL, rfl, tb, ta, tr, esc, esa, esp, ess, st.lk, enl, pn, st.sh, nsl, nsn, nln, hd, hf, by rw [List.length_append, List.length_map]; omega, by omega, hbe, hre, fun p H7 rs2 nL2 hp e7 f7 it7 l7 n7 pn7 sh7 o7 => ?_⟩
  have er7 := o7.keep r _ (by simp [st.ln hln, st.nn hnn]) er
  have l2 : rs2.length ≤ Tp.wts bs := by rw [it7.len, lawNamed_len]; exact Tp.dis_len _ _ _ _ _
  refine ⟨r, p, rs, rs2, rfl, rfl, er7, e7, Nat.le_trans (by omega : rs.length + rs2.length ≤ 50000) (by decide), fun p8 hp8 => ?_⟩
  exact q p8 _ (st.cat hln hnn er fr it f7 it7 l7 n7 pn7 sh7 o7 hp8) (o7.trans (Oth.new hp8))
end Pw
namespace Pw
open PySem PySem.Spec PyProof.Rows L2
theorem IsT.nats {H : Hp} {v : V} {ns : List Nat} (h : IsT H (natsT ns) v) : ∃ a, v = .ref a ∧ H a = some (.tup (ns.map natV)) := by
  obtain ⟨a, xs, rfl, e, p⟩ := h.inv
  have : ∀ {ns : List Nat} {xs : List V}, Paired (IsT H) (ns.map natT) xs → xs = ns.map natV := fun {ns} => by
    induction ns with
    | nil => intro xs p; cases p; rfl
    | cons n ns ih =>
      intro xs p
      cases p with
      | cons r q => cases r; rw [ih q]; rfl
  rw [this p] at e
  exact ⟨a, rfl, e⟩
theorem Pq.inv {H : Hp} {v : V} {p : Pq} (h : IsT H p.toT v) : ∃ (a c s q : Addr) (cs : List V), v = .ref a ∧ H a = some (.tup [.str "program", .ref c, .ref s, .ref q]) ∧ H c = some (.tup cs) ∧ Paired (IsT H) (p.comps.map Cq.toT) cs ∧ H s = some (.tup (p.store.map natV)) ∧ H q = some (.tup (p.parts.map natV)) := by
  obtain ⟨a, _, x, y, z, rfl, e, p1, p2, p3, p4⟩ := IsT.inv4 h
  obtain rfl := p1.of_str
  obtain ⟨c, cs, rfl, ec, pc⟩ := p2.inv
  obtain ⟨s, rfl, es⟩ := p3.nats
  obtain ⟨q, rfl, eq⟩ := p4.nats
  exact ⟨a, c, s, q, cs, rfl, e, ec, pc, es, eq⟩
theorem Cq.inv {H : Hp} {v : V} {c : Cq} (h : IsT H c.toT v) : ∃ (a x : Addr) (y z : V), v = .ref a ∧ H a = some (.tup [.str "component", .ref x, y, z]) ∧ H x = some (.tup (c.cells.map natV)) ∧ IsT H (.tup (Tp.toTs c.cs)) y ∧ IsT H (actsT c.acts) z := by
  obtain ⟨a, _, x, y, z, rfl, e, p1, p2, p3, p4⟩ := IsT.inv4 h
  obtain rfl := p1.of_str
  obtain ⟨c, rfl, ec⟩ := p2.nats
  exact ⟨a, c, y, z, rfl, e, ec, p3, p4⟩
def intsOf (ns : List Nat) : List Int := ns.map Int.ofNat
theorem ints_map (ns : List Nat) : (intsOf ns).map V.int = ns.map natV := by unfold intsOf; rw [List.map_map]; rfl
theorem natsT_intsOf (ns : List Nat) : natsT ns = .tup ((intsOf ns).map .int) := by unfold intsOf natsT; rw [List.map_map]; rfl
def spLawY (K : PySem.W.Frag) : Sp := fun vs H Q _ => ∃ (a : Addr) (ns : List Int), vs = [.ref a] ∧ SqL K H a (ns.map V.int) ∧ ns.length ≤ 63 ∧ ∀ H', Q (.bl true) H'
theorem sl_takeL {K : PySem.W.Frag} {H : Hp} {a : Addr} {xs : List V} {n : Nat} {Q : VK} (ha : H a = some (.lst xs)) (q : ∀ (c : Addr) (H' : Hp), H c = none → Oth [] H H' → H' c = some (.lst (xs.take n)) → Q (.ref c) H') : rSlL K (.ref a) none (some (n : Int)) H Q := by
  refine ⟨a, xs, rfl, SqL.of ha, fun p hp => q p _ hp (Oth.new hp) ?_⟩
  rw [upd_same]
  unfold cutV
  rw [HT.sIx_none, HT.sIx_nat, List.drop_zero, Nat.sub_zero]
  by_cases c : n ≤ xs.length
  · rw [Nat.min_eq_left c]
  · rw [Nat.min_eq_right (by omega), List.take_of_length_le (Nat.le_refl _), List.take_of_length_le (by omega)]
theorem nats_eqv (ns : List Int) : PyData.eqv (.list (T.dats (ns.map .int))) (.list (T.dats (ns.map .int))) = true := by
  simp [PyData.eqv, eqv_dats]
theorem ints_shaped (ns : List Int) : SeqAt.shaped (.list (T.dats (ns.map .int))) = true := by
  refine shaped_list fun t ht => ?_
  obtain ⟨i, _, rfl⟩ := List.mem_map.mp ht
  exact ⟨.int _ _, rfl⟩
theorem ne_ints {K : PySem.W.Frag} {H : Hp} {a b : Addr} {ns : List Int} {Q : VK} (ha : H a = some (.lst (ns.map V.int))) (hb : H b = some (.lst (ns.map V.int))) (q : Q (.bl false) H) : rNeD K (.ref a) (.ref b) H Q := by
  refine ⟨_, _, .lst (SqL.of ha) (paired_dp (int_paired ns)), .lst (SqL.of hb) (paired_dp (int_paired ns)), ints_shaped ns, ints_shaped ns, ?_⟩
  rw [nats_eqv]
  exact q
theorem Tp.item_dep {ts : List Tp} {t : Tp} {n : Nm} {i : Int} (hn : n.short) (hd : t.dep ≤ 3) (hf : t.Fine) (hc : t.cnt ≤ 5000) (k : Nat) : Dep (14 + k) (itemT (n, t, i)) := by
  rw [show 14 + k = (13 + k) + 1 by omega]
  refine .tup _ _ (by simp) ?_
  simp only [List.mem_cons, List.not_mem_nil, or_false, forall_eq_or_imp, forall_eq]
  exact ⟨(Nm.dep hn (10 + k)).mono (by omega), (Tp.dep_ok t hf hc).mono (by omega), (Dep.int (12 + k) i).mono (by omega)⟩
mutual
theorem Tp.dis1_tp : ∀ (t : Tp) (c : Sc) (addr reps : List Int), ∀ d ∈ t.dis1 c addr reps, d.tp.dep ≤ t.dep ∧ d.tp.cnt ≤ t.cnt ∧ (t.Fine → d.tp.Fine)
  | .when e cs os, c, addr, reps, d, h => by
    simp only [Tp.dis1] at h
    simp only [Tp.dep, Tp.cnt]
    split at h
    · obtain ⟨a, b, f⟩ := Tp.dis_tp os c _ reps 0 d h
      exact ⟨by omega, by omega, fun q => f q.2.2⟩
    · obtain ⟨a, b, f⟩ := Tp.dis_tp cs c _ reps 0 d h
      exact ⟨by omega, by omega, fun q => f q.2.1⟩
  | .each e cs, c, addr, reps, d, h => by
    simp only [Tp.dis1, List.mem_flatMap] at h
    obtain ⟨n, _, h⟩ := h
    obtain ⟨a, b, f⟩ := Tp.dis_tp cs _ addr _ 0 d h
    simp only [Tp.dep, Tp.cnt]
    exact ⟨by omega, by omega, fun q => f q.2⟩
  | .text _, c, addr, reps, d, h | .show _, c, addr, reps, d, h | .input _ _, c, addr, reps, d, h | .part _, c, addr, reps, d, h | .box _ _ _ _, c, addr, reps, d, h | .child _ _ _, c, addr, reps, d, h => by
    simp only [Tp.dis1, List.mem_singleton] at h
    subst h
    exact ⟨Nat.le_refl _, Nat.le_refl _, id⟩
theorem Tp.dis_tp : ∀ (ts : List Tp) (c : Sc) (before reps : List Int) (k : Nat), ∀ d ∈ Tp.dis c before reps k ts, d.tp.dep ≤ Tp.deps ts ∧ d.tp.cnt ≤ Tp.cnts ts ∧ (Tp.Fines ts → d.tp.Fine)
  | [], c, before, reps, k, d, h => nomatch h
  | t :: ts, c, before, reps, k, d, h => by
    simp only [Tp.dis, List.mem_append] at h
    simp only [Tp.deps, Tp.cnts]
    rcases h with h | h
    · obtain ⟨a, b, f⟩ := Tp.dis1_tp t c _ reps d h
      exact ⟨by omega, by omega, fun q => f q.1⟩
    · obtain ⟨a, b, f⟩ := Tp.dis_tp ts c before reps (k + 1) d h
      exact ⟨by omega, by omega, fun q => f q.2⟩
end
theorem lawNamed_tp : ∀ (ds : List Dr) (tk : List Nm), ∀ x ∈ lawNamed tk ds, ∃ d ∈ ds, x.2.1 = d.tp ∧ x.2.2 = d.idx
  | [], tk, x, h => nomatch h
  | d :: ds, tk, x, h => by
    simp only [lawNamed, List.mem_cons] at h
    rcases h with rfl | h
    · exact ⟨d, by simp, rfl, rfl⟩
    · obtain ⟨d', h1, h2⟩ := lawNamed_tp ds _ x h
      exact ⟨d', by simp [h1], h2⟩
theorem Cq.Ok.ndp {i last parts : Nat} {c : Cq} (h : c.Ok i last parts) : (Tp.ptss c.cs).Nodup := by
  refine h.pts.nodup_iff.mpr ?_
  split
  · exact List.nodup_range
  · exact List.nodup_nil
end Pw
namespace Pw
open PySem PySem.Spec PyProof.Rows L2
abbrev Path := List Nm
def pathT (p : Path) : T := .tup (p.map Nm.toT)
def numS (i : Int) : Str := Str.ofString (toString i)
inductive Nd where
  | text (path : Path) (s : Str)
  | box (path : Path) (tag : Str) (owner : Path) (act : Option Nat) (ns : List Nd)
  | input (path : Path) (tag : Str) (owner : Path) (cell : Nat) (v : Int)
  | child (path : Path) (comp : Nat) (props reads : List Int) (ns : List Nd)
  | place (path : Path) (k : Nat)
mutual
def Nd.toT : Nd → T
  | .text p s => .tup [.str "text", pathT p, .str s]
  | .box p tag o act ns => .tup [.str "box", pathT p, .str tag, pathT o, actT act, .tup (Nd.toTs ns)]
  | .input p tag o c v => .tup [.str "input", pathT p, .str tag, pathT o, .int (c : Int), .int v]
  | .child p c ps rs ns => .tup [.str "child", pathT p, .int (c : Int), intsT ps, intsT rs, .tup (Nd.toTs ns)]
  | .place p k => .tup [.str "place", pathT p, .int (k : Int)]
def Nd.toTs : List Nd → List T
  | [] => []
  | n :: ns => n.toT :: Nd.toTs ns
end
theorem Nd.toTs_map : ∀ ns : List Nd, Nd.toTs ns = ns.map Nd.toT
  | [] => rfl
  | n :: ns => by rw [Nd.toTs, Nd.toTs_map ns]; rfl
/-- what a page is laid out from -/
structure Pc where
  g : Pq
  st : List Int
  cs : List (Path × List Int)
  pres : List Nat
def Pc.comp (X : Pc) (d : Nat) : Cq := X.g.comps.getD d ⟨[], [], []⟩
/-- the last told ones, else the initial ones -/
def Pc.cells (X : Pc) (p : Path) (d : Nat) : List Int := X.cs.foldl (fun acc it => if it.1 = p then it.2 else acc) (intsOf (X.comp d).cells)
def Pc.reads (X : Pc) (lk : List Int) : List Int := ((List.range X.st.length).filter fun k : Nat => decide ((k : Int) ∈ lk)).map Int.ofNat
def Pc.sc (X : Pc) (p : Path) (d : Nat) (props : List Int) : Sc := ⟨X.cells p d, props, X.st, 0⟩
def childOf (X : Pc) (fl : Path → Sc → List Tp → Path → List Nd) (lk : Sc → List Tp → List Int) (p : Path) (d : Nat) (props : List Int) : Nd :=
  .child p d props (X.reads (lk (X.sc p d props) (X.comp d).cs)) (fl p (X.sc p d props) (X.comp d).cs p)
def nodeLk (lk : Sc → List Tp → List Int) (c : Sc) : Tp → List Int
  | .show e => e.looks c
  | .box _ _ _ cs => lk c cs
  | .child _ _ props => props.flatMap (E.looks c)
  | _ => []
/-- all looks while contents are laid out -/
def lkAll : Nat → Sc → List Tp → List Int
  | 0, _, _ => []
  | n + 1, c, ts => Tp.lks c ts ++ (lawNamed [] (Tp.dis c [] [] 0 ts)).flatMap fun it => nodeLk (lkAll n) { c with index := it.2.2 } it.2.1
def nodeOf (X : Pc) (fl : Path → Sc → List Tp → Path → List Nd) (lk : Sc → List Tp → List Int) (o : Path) (c : Sc) (here : Path) : Tp → Nd
  | .text s => .text here s
  | .show e => .text here (numS (e.val c))
  | .box tag _ act cs => .box here tag o act (fl o c cs here)
  | .child d _ props => childOf X fl lk here d (props.map (E.val c))
  | .part k => if k ∈ X.pres then childOf X fl lk here (X.g.parts.getD k 0) [] else .place here k
  | .input tag cell => .input here tag o cell (c.cells.getD cell 0)
  | .when _ _ _ => .place here 0
  | .each _ _ => .place here 0
def fill (X : Pc) : Nat → Path → Sc → List Tp → Path → List Nd
  | 0, _, _, _, _ => []
  | n + 1, o, c, ts, path => (lawNamed [] (Tp.dis c [] [] 0 ts)).map fun it => nodeOf X (fill X n) (lkAll n) o { c with index := it.2.2 } (path ++ [it.1]) it.2.1
def child (X : Pc) (n : Nat) (p : Path) (d : Nat) (props : List Int) : Nd := childOf X (fill X n) (lkAll n) p d props
/-! ### values stay small -/
def Sm (xs : List Int) : Prop := ∀ x ∈ xs, 0 ≤ x ∧ x < 1000
structure Sc.Sm (c : Sc) : Prop where
  cells : Pw.Sm c.cells
  props : Pw.Sm c.props
  store : Pw.Sm c.store
  index : 0 ≤ c.index ∧ c.index < 1000
  few : c.cells.length ≤ 4
theorem Sm.get {xs : List Int} (h : Sm xs) (i : Nat) : 0 ≤ xs.getD i 0 ∧ xs.getD i 0 < 1000 := by
  rw [List.getD_eq_getElem?_getD]
  cases e : xs[i]? with
  | none => exact ⟨by decide, by decide⟩
  | some x => exact h x (List.mem_of_getElem? e)
theorem E.sm {c : Sc} (h : c.Sm) : ∀ e : E, e.Ok → 0 ≤ e.val c ∧ e.val c < 1000
  | .num n, k => k
  | .cell i, _ => h.cells.get i
  | .prop i, _ => h.props.get i
  | .store i, _ => h.store.get i
  | .index, _ => h.index
  | .plus a b, _ => by simp only [E.val]; omega
  | .minus a b, _ => by simp only [E.val]; omega
  | .same a b, _ => by simp only [E.val]; split <;> decide
  | .less a b, _ => by simp only [E.val]; split <;> decide
  | .ite q a b, k => by
    simp only [E.val]
    split
    · exact E.sm h b k.2.2
    · exact E.sm h a k.2.1
theorem Sc.Sm.idx {c : Sc} (h : c.Sm) {i : Int} (hi : 0 ≤ i ∧ i < 1000) : Sc.Sm { c with index := i } := ⟨h.cells, h.props, h.store, hi, h.few⟩
mutual
theorem Tp.dis1_idx : ∀ (t : Tp) (c : Sc) (addr reps : List Int), (0 ≤ c.index ∧ c.index < 1000) → ∀ d ∈ t.dis1 c addr reps, 0 ≤ d.idx ∧ d.idx < 1000
  | .when e cs os, c, addr, reps, hc, d, h => by
    simp only [Tp.dis1] at h
    split at h
    · exact Tp.dis_idx os c _ reps 0 hc d h
    · exact Tp.dis_idx cs c _ reps 0 hc d h
  | .each e cs, c, addr, reps, hc, d, h => by
    simp only [Tp.dis1, List.mem_flatMap] at h
    obtain ⟨n, hn, h⟩ := h
    have := List.mem_range.mp hn
    have := mod6 (e.val c)
    exact Tp.dis_idx cs _ addr _ 0 (by dsimp only; omega) d h
  | .text _, c, addr, reps, hc, d, h | .show _, c, addr, reps, hc, d, h | .input _ _, c, addr, reps, hc, d, h | .part _, c, addr, reps, hc, d, h | .box _ _ _ _, c, addr, reps, hc, d, h | .child _ _ _, c, addr, reps, hc, d, h => by
    simp only [Tp.dis1, List.mem_singleton] at h
    subst h
    exact hc
theorem Tp.dis_idx : ∀ (ts : List Tp) (c : Sc) (before reps : List Int) (k : Nat), (0 ≤ c.index ∧ c.index < 1000) → ∀ d ∈ Tp.dis c before reps k ts, 0 ≤ d.idx ∧ d.idx < 1000
  | [], c, before, reps, k, hc, d, h => nomatch h
  | t :: ts, c, before, reps, k, hc, d, h => by
    simp only [Tp.dis, List.mem_append] at h
    rcases h with h | h
    · exact Tp.dis1_idx t c _ reps hc d h
    · exact Tp.dis_idx ts c before reps (k + 1) hc d h
end
/-! ### what stands in a row -/
mutual
theorem Tp.dis1_ok {own last : Nat} : ∀ {free : Bool} (t : Tp) (c : Sc) (addr reps : List Int), t.Ok own last free → ∀ d ∈ t.dis1 c addr reps, d.tp.node = true ∧ (∃ fr, d.tp.Ok own last fr) ∧ d.tp.dep ≤ t.dep ∧ d.tp.wt ≤ t.wt
  | _, .when e cs os, c, addr, reps, hk, d, h => by
    simp only [Tp.dis1] at h
    simp only [Tp.dep, Tp.wt]
    split at h
    · obtain ⟨a, b, f, z⟩ := Tp.dis_ok os c _ reps 0 hk.2.2 d h
      exact ⟨a, b, by omega, by omega⟩
    · obtain ⟨a, b, f, z⟩ := Tp.dis_ok cs c _ reps 0 hk.2.1 d h
      exact ⟨a, b, by omega, by omega⟩
  | _, .each e cs, c, addr, reps, hk, d, h => by
    simp only [Tp.dis1, List.mem_flatMap] at h
    obtain ⟨n, _, h⟩ := h
    obtain ⟨a, b, f, z⟩ := Tp.dis_ok cs _ addr _ 0 hk.2 d h
    simp only [Tp.dep, Tp.wt]
    exact ⟨a, b, by omega, by omega⟩
  | _, .text _, c, addr, reps, hk, d, h | _, .show _, c, addr, reps, hk, d, h | _, .input _ _, c, addr, reps, hk, d, h | _, .part _, c, addr, reps, hk, d, h | _, .box _ _ _ _, c, addr, reps, hk, d, h | _, .child _ _ _, c, addr, reps, hk, d, h => by
    simp only [Tp.dis1, List.mem_singleton] at h
    subst h
    exact ⟨rfl, ⟨_, hk⟩, Nat.le_refl _, Nat.le_refl _⟩
theorem Tp.dis_ok {own last : Nat} : ∀ {free : Bool} (ts : List Tp) (c : Sc) (before reps : List Int) (k : Nat), Tp.Oks own last free ts → ∀ d ∈ Tp.dis c before reps k ts, d.tp.node = true ∧ (∃ fr, d.tp.Ok own last fr) ∧ d.tp.dep ≤ Tp.deps ts ∧ d.tp.wt ≤ Tp.wts ts
  | _, [], c, before, reps, k, hk, d, h => nomatch h
  | _, t :: ts, c, before, reps, k, hk, d, h => by
    simp only [Tp.dis, List.mem_append] at h
    simp only [Tp.deps, Tp.wts]
    rcases h with h | h
    · obtain ⟨a, b, f, z⟩ := Tp.dis1_ok t c _ reps hk.1 d h
      exact ⟨a, b, by omega, by omega⟩
    · obtain ⟨a, b, f, z⟩ := Tp.dis_ok ts c before reps (k + 1) hk.2 d h
      exact ⟨a, b, by omega, by omega⟩
end
/-! ### how many nodes -/
mutual
def Tp.inst : Tp → Nat
  | .box _ _ _ cs => Tp.insts cs + 1
  | .when _ cs os => Tp.insts cs + Tp.insts os
  | .each _ cs => 5 * Tp.insts cs
  | _ => 1
def Tp.insts : List Tp → Nat
  | [] => 0
  | t :: ts => t.inst + Tp.insts ts
end
mutual
theorem Tp.inst_le0 : ∀ t : Tp, t.ech = 0 → t.inst ≤ t.cnt
  | .box _ _ _ cs, z => by have := Tp.insts_le0 cs z; simp only [Tp.inst, Tp.cnt]; omega
  | .when _ cs os, z => by
    simp only [Tp.ech] at z
    have := Tp.insts_le0 cs (by omega); have := Tp.insts_le0 os (by omega); simp only [Tp.inst, Tp.cnt]; omega
  | .each _ cs, z => by simp [Tp.ech] at z
  | .text _, _ | .show _, _ | .child _ _ _, _ | .part _, _ | .input _ _, _ => by simp [Tp.inst, Tp.cnt]
theorem Tp.insts_le0 : ∀ ts : List Tp, Tp.echs ts = 0 → Tp.insts ts ≤ Tp.cnts ts
  | [], _ => Nat.le_refl _
  | t :: ts, z => by
    simp only [Tp.echs] at z
    have := Tp.inst_le0 t (by omega); have := Tp.insts_le0 ts (by omega); simp only [Tp.insts, Tp.cnts]; omega
end
mutual
theorem Tp.inst_le : ∀ t : Tp, t.ech ≤ 1 → t.inst ≤ 5 * t.cnt
  | .box _ _ _ cs, z => by have := Tp.insts_le cs z; simp only [Tp.inst, Tp.cnt]; omega
  | .when _ cs os, z => by
    simp only [Tp.ech] at z
    have := Tp.insts_le cs (by omega); have := Tp.insts_le os (by omega); simp only [Tp.inst, Tp.cnt]; omega
  | .each _ cs, z => by
    simp only [Tp.ech] at z
    have := Tp.insts_le0 cs (by omega); simp only [Tp.inst, Tp.cnt]; omega
  | .text _, _ | .show _, _ | .child _ _ _, _ | .part _, _ | .input _ _, _ => by simp [Tp.inst, Tp.cnt]
theorem Tp.insts_le : ∀ ts : List Tp, Tp.echs ts ≤ 1 → Tp.insts ts ≤ 5 * Tp.cnts ts
  | [], _ => Nat.le_refl _
  | t :: ts, z => by
    simp only [Tp.echs] at z
    have := Tp.inst_le t (by omega); have := Tp.insts_le ts (by omega); simp only [Tp.insts, Tp.cnts]; omega
end
def sumBy {α : Type} (f : α → Nat) : List α → Nat
  | [] => 0
  | x :: xs => f x + sumBy f xs
theorem sumBy_app {α : Type} (f : α → Nat) (b : List α) : ∀ a : List α, sumBy f (a ++ b) = sumBy f a + sumBy f b
  | [] => by simp [sumBy]
  | x :: a => by simp only [List.cons_append, sumBy, sumBy_app f b a]; omega
theorem sumBy_flat {α : Type} (g : α → Nat) {f : Nat → List α} {m : Nat} (h : ∀ n, sumBy g (f n) ≤ m) : ∀ r : Nat, sumBy g ((List.range r).flatMap f) ≤ r * m
  | 0 => by simp [sumBy]
  | r + 1 => by
    rw [flat_succ, sumBy_app, Nat.succ_mul]
    have := sumBy_flat g h r
    have := h r
    omega
mutual
theorem Tp.dis1_inst : ∀ (t : Tp) (c : Sc) (addr reps : List Int), sumBy (fun d : Dr => d.tp.inst) (t.dis1 c addr reps) ≤ t.inst
  | .when e cs os, c, addr, reps => by
    simp only [Tp.dis1, Tp.inst]
    split
    · have := Tp.dis_inst os c (addr ++ [1]) reps 0; omega
    · have := Tp.dis_inst cs c (addr ++ [0]) reps 0; omega
  | .each e cs, c, addr, reps => by
    simp only [Tp.dis1, Tp.inst]
    have h1 := sumBy_flat (fun d : Dr => d.tp.inst) (f := fun n : Nat => Tp.dis { c with index := (n : Int) } addr (reps ++ [(n : Int)]) 0 cs) (m := Tp.insts cs) (fun n => Tp.dis_inst cs _ _ _ _) ((e.val c) % 6).toNat
    have h2 := Nat.mul_le_mul_right (Tp.insts cs) (mod6 (e.val c))
    omega
  | .text s, c, addr, reps | .show s, c, addr, reps | .box _ _ _ _, c, addr, reps | .child _ _ _, c, addr, reps | .part _, c, addr, reps | .input _ _, c, addr, reps => by simp [Tp.dis1, Tp.inst, sumBy]
theorem Tp.dis_inst : ∀ (ts : List Tp) (c : Sc) (before reps : List Int) (k : Nat), sumBy (fun d : Dr => d.tp.inst) (Tp.dis c before reps k ts) ≤ Tp.insts ts
  | [], c, before, reps, k => Nat.le_refl _
  | t :: ts, c, before, reps, k => by
    simp only [Tp.dis, Tp.insts]
    rw [sumBy_app]
    have := Tp.dis1_inst t c (before ++ [(k : Int)]) reps
    have := Tp.dis_inst ts c before reps (k + 1)
    omega
end
theorem lawNamed_sum (f : Tp → Nat) : ∀ (ds : List Dr) (tk : List Nm), sumBy (fun it : Nm × Tp × Int => f it.2.1) (lawNamed tk ds) = sumBy (fun d : Dr => f d.tp) ds
  | [], tk => rfl
  | d :: ds, tk => by simp only [lawNamed, sumBy, lawNamed_sum f ds]
mutual
def Nd.cnt : Nd → Nat
  | .box _ _ _ _ ns => Nd.cnts ns + 1
  | .child _ _ _ _ ns => Nd.cnts ns + 1
  | _ => 1
def Nd.cnts : List Nd → Nat
  | [] => 0
  | n :: ns => n.cnt + Nd.cnts ns
end
theorem cnts_sum : ∀ ns : List Nd, Nd.cnts ns = sumBy Nd.cnt ns
  | [] => rfl
  | n :: ns => by simp only [Nd.cnts, sumBy, cnts_sum ns]
theorem sumBy_map {α β : Type} (f : β → Nat) (g : α → β) : ∀ l : List α, sumBy f (l.map g) = sumBy (fun x => f (g x)) l
  | [] => rfl
  | x :: l => by simp only [List.map_cons, sumBy, sumBy_map f g l]
theorem sumBy_le {α : Type} {f g : α → Nat} {m : Nat} : ∀ l : List α, (∀ x ∈ l, f x ≤ g x * m) → sumBy f l ≤ sumBy g l * m
  | [], _ => Nat.zero_le _
  | x :: l, h => by
    have h1 := h x List.mem_cons_self
    have h2 := sumBy_le l fun y hy => h y (List.mem_cons_of_mem _ hy)
    simp only [sumBy, Nat.add_mul]
    omega
/-- what a context's program is like -/
structure Pc.Ok (X : Pc) : Prop where
  g : X.g.Ok
  st : Sm X.st
  sl : X.st.length ≤ 2
  cs : ∀ it ∈ X.cs, Sm it.2 ∧ it.2.length ≤ 4
  cl : X.cs.length ≤ 70000
  pres : ∀ k ∈ X.pres, k < X.g.parts.length
  pl : X.pres.length ≤ 2
theorem Pc.Ok.comp {X : Pc} (h : X.Ok) {d : Nat} (hd : d ≤ X.g.comps.length - 1) : (X.comp d).Ok d (X.g.comps.length - 1) X.g.parts.length := by
  have := h.g.ne
  have hl : d < X.g.comps.length := by omega
  have e : X.g.comps[d]? = some X.g.comps[d] := List.getElem?_eq_getElem hl
  have : X.comp d = X.g.comps[d] := by
    unfold Pc.comp
    rw [List.getD_eq_getElem?_getD, e]; rfl
  rw [this]
  exact h.g.comps d _ e
theorem cells_sm {l : List (Path × List Int)} {p : Path} : ∀ {z : List Int}, (∀ it ∈ l, Sm it.2 ∧ it.2.length ≤ 4) → Sm z ∧ z.length ≤ 4 → Sm (l.foldl (fun acc it => if it.1 = p then it.2 else acc) z) ∧ (l.foldl (fun acc it => if it.1 = p then it.2 else acc) z).length ≤ 4 := by
  induction l with
  | nil => intro z _ h; exact h
  | cons it l ih =>
    intro z hl hz
    refine ih (fun x hx => hl x (List.mem_cons_of_mem _ hx)) ?_
    show Sm (if it.1 = p then it.2 else z) ∧ (if it.1 = p then it.2 else z).length ≤ 4
    split
    · exact hl it List.mem_cons_self
    · exact hz
theorem intsOf_sm {ns : List Nat} (h : ∀ n ∈ ns, n < 1000) : Sm (intsOf ns) := by
  intro x hx
  obtain ⟨n, hn, rfl⟩ := List.mem_map.mp hx
  have := h n hn
  exact ⟨Int.natCast_nonneg n, by show (n : Int) < 1000; omega⟩
theorem Pc.Ok.cells {X : Pc} (h : X.Ok) {d : Nat} (hd : d ≤ X.g.comps.length - 1) (p : Path) : Sm (X.cells p d) ∧ (X.cells p d).length ≤ 4 := by
  have c := h.comp hd
  refine cells_sm h.cs ⟨intsOf_sm fun n hn => Nat.lt_trans (c.cells n hn) (by decide), ?_⟩
  unfold intsOf
  rw [List.length_map]
  have := c.cl
  omega
theorem Pc.Ok.sc {X : Pc} (h : X.Ok) {d : Nat} (hd : d ≤ X.g.comps.length - 1) (p : Path) {props : List Int} (hp : Sm props) : (X.sc p d props).Sm :=
  ⟨(h.cells hd p).1, hp, h.st, by show (0 : Int) ≤ 0 ∧ (0 : Int) < 1000; decide, (h.cells hd p).2⟩
/-- how deep what is left may be -/
def rank (last own : Nat) (ts : List Tp) : Nat := Tp.deps ts + 4 * (last - own)
def tot : Nat → Nat
  | 0 => 40
  | j + 1 => 40 * (1 + tot j)
theorem tot_mono : ∀ {a b : Nat}, a ≤ b → tot a ≤ tot b := by
  intro a b h
  induction h with
  | refl => exact Nat.le_refl _
  | step _ ih => simp only [tot]; omega
def below (last own : Nat) : Nat := if own < last then 1 + tot (last - own - 1) else 1
theorem below_pos (last own : Nat) : 1 ≤ below last own := by unfold below; split <;> omega
theorem below_tot (last own : Nat) : 40 * below last own ≤ tot (last - own) := by
  unfold below
  split
  · rename_i h
    obtain ⟨j, hj⟩ : ∃ j, last - own = j + 1 := ⟨last - own - 1, by omega⟩
    rw [hj]
    simp only [tot, Nat.add_sub_cancel]
    omega
  · have := tot_mono (Nat.zero_le (last - own))
    simp only [tot] at this
    omega
theorem fill_cnt {X : Pc} (h : X.Ok) : ∀ (n : Nat) (own : Nat) (free : Bool) (o : Path) (c : Sc) (ts : List Tp) (p : Path), own ≤ X.g.comps.length - 1 → Tp.Oks own (X.g.comps.length - 1) free ts → Nd.cnts (fill X n o c ts p) ≤ Tp.insts ts * below (X.g.comps.length - 1) own
  | 0, _, _, _, _, _, _, _, _ => Nat.zero_le _
  | n + 1, own, free, o, c, ts, p, ho, hk => by
    have kid : ∀ (q : Path) (d : Nat) (props : List Int), own < d → d ≤ X.g.comps.length - 1 → (childOf X (fill X n) (lkAll n) q d props).cnt ≤ below (X.g.comps.length - 1) own := fun q d props h1 h2 => by
      have cd := h.comp h2
      have i1 := fill_cnt h n d true q (X.sc q d props) (X.comp d).cs q h2 cd.oks
      have i2 := Tp.insts_le _ cd.echs
      have i3 := cd.cnts
      have i4 : Tp.insts (X.comp d).cs ≤ 40 := by omega
      have i5 := Nat.mul_le_mul_right (below (X.g.comps.length - 1) d) i4
      have i6 := below_tot (X.g.comps.length - 1) d
      have i7 : tot (X.g.comps.length - 1 - d) ≤ tot (X.g.comps.length - 1 - own - 1) := tot_mono (by omega)
      simp only [childOf, Nd.cnt]
      unfold below
      rw [if_pos (by omega)]
      omega
    simp only [fill]
    rw [cnts_sum, sumBy_map]
    have e := lawNamed_sum Tp.inst (Tp.dis c [] [] 0 ts) []
    have e2 := Tp.dis_inst ts c [] [] 0
    refine Nat.le_trans (sumBy_le (g := fun it : Nm × Tp × Int => it.2.1.inst) (m := below (X.g.comps.length - 1) own) _ fun it hit => ?_) (Nat.mul_le_mul_right _ (by omega))
    obtain ⟨dd, hdd, h1, h2⟩ := lawNamed_tp _ _ it hit
    obtain ⟨a1, ⟨fr, a2⟩, a3, a4⟩ := Tp.dis_ok ts c [] [] 0 hk dd hdd
    rw [← h1] at a1 a2
    have bp := below_pos (X.g.comps.length - 1) own
    generalize it.2.1 = t at a1 a2
    cases t with
    | when _ _ _ => cases a1
    | each _ _ => cases a1
    | text s => simp only [nodeOf, Nd.cnt, Tp.inst]; omega
    | «show» s => simp only [nodeOf, Nd.cnt, Tp.inst]; omega
    | input _ _ => simp only [nodeOf, Nd.cnt, Tp.inst]; omega
    | box tag key act cs =>
      simp only [nodeOf, Nd.cnt, Tp.inst]
      have := fill_cnt h n own fr o { c with index := it.2.2 } cs (p ++ [it.1]) ho a2.2.2.2
      rw [Nat.add_mul]
      omega
    | child d key props =>
      simp only [nodeOf, Tp.inst, Nat.one_mul]
      exact kid _ d _ a2.1 a2.2.1
    | part k =>
      simp only [nodeOf, Tp.inst, Nat.one_mul]
      split
      · rename_i hin
        have hk := h.pres k hin
        have hp := h.g.parts _ (List.getElem_mem hk)
        have e3 : X.g.parts.getD k 0 = X.g.parts[k] := by rw [List.getD_eq_getElem?_getD, List.getElem?_eq_getElem hk]; rfl
        rw [e3]
        exact kid _ _ _ (by rw [a2.1]; exact hp.1) (by omega)
      · exact bp
end Pw
namespace Pw
open PySem PySem.Spec PyProof.Rows L2
theorem bo_min : bootBuiltins "min" = some (.builtin "min") := by decide +kernel
theorem sumBy_take {α : Type} (f : α → Nat) {l : List α} {j : Nat} {x : α} (h : l[j]? = some x) : sumBy f (l.take j) + f x ≤ sumBy f l := by
  have hi : j < l.length := (List.getElem?_eq_some_iff.mp h).1
  have e3 : x = l[j] := by rw [List.getElem?_eq_getElem hi] at h; exact (Option.some.inj h).symm
  have e1 : l = l.take j ++ x :: l.drop (j + 1) := by rw [e3, ← List.drop_eq_getElem_cons hi, List.take_append_drop]
  have e4 := congrArg (sumBy f) e1
  rw [sumBy_app, sumBy] at e4
  omega
theorem len_flat {α β : Type} (f : α → List β) : ∀ l : List α, (l.flatMap f).length = sumBy (fun x => (f x).length) l
  | [] => rfl
  | x :: l => by rw [List.flatMap_cons, List.length_append, len_flat f l]; rfl
mutual
theorem Tp.dis1_wt : ∀ (t : Tp) (c : Sc) (addr reps : List Int), sumBy (fun d : Dr => d.tp.wt) (t.dis1 c addr reps) ≤ t.wt
  | .when e cs os, c, addr, reps => by
    simp only [Tp.dis1, Tp.wt]
    split
    · have := Tp.dis_wt os c (addr ++ [1]) reps 0; omega
    · have := Tp.dis_wt cs c (addr ++ [0]) reps 0; omega
  | .each e cs, c, addr, reps => by
    simp only [Tp.dis1, Tp.wt]
    have h1 := sumBy_flat (fun d : Dr => d.tp.wt) (f := fun n : Nat => Tp.dis { c with index := (n : Int) } addr (reps ++ [(n : Int)]) 0 cs) (m := Tp.wts cs) (fun n => Tp.dis_wt cs _ _ _ _) ((e.val c) % 6).toNat
    have h2 := Nat.mul_le_mul_right (Tp.wts cs) (mod6 (e.val c))
    omega
  | .text s, c, addr, reps | .show s, c, addr, reps | .box _ _ _ _, c, addr, reps | .child _ _ _, c, addr, reps | .part _, c, addr, reps | .input _ _, c, addr, reps => by simp [Tp.dis1, Tp.wt, sumBy]
theorem Tp.dis_wt : ∀ (ts : List Tp) (c : Sc) (before reps : List Int) (k : Nat), sumBy (fun d : Dr => d.tp.wt) (Tp.dis c before reps k ts) ≤ Tp.wts ts
  | [], c, before, reps, k => Nat.le_refl _
  | t :: ts, c, before, reps, k => by
    simp only [Tp.dis, Tp.wts]
    rw [sumBy_app]
    have := Tp.dis1_wt t c (before ++ [(k : Int)]) reps
    have := Tp.dis_wt ts c before reps (k + 1)
    omega
end
theorem props_len (c : Sc) : ∀ ps : List E, (ps.flatMap (E.looks c)).length ≤ psz ps
  | [] => Nat.le_refl _
  | e :: ps => by
    rw [List.flatMap_cons, List.length_append]
    have := e.looks_le c
    have := props_len c ps
    simp only [psz]
    omega
theorem lk_len : ∀ (n : Nat) (c : Sc) (ts : List Tp), (lkAll n c ts).length ≤ (Tp.deps ts + 2) * Tp.wts ts ∧ ∀ (D : Nat) (t : Tp) (c' : Sc), t.dep ≤ D → (nodeLk (lkAll n) c' t).length ≤ t.wt * (D + 1)
  | n, c, ts => by
    have node : (∀ (c : Sc) (ts : List Tp), (lkAll n c ts).length ≤ (Tp.deps ts + 2) * Tp.wts ts) → ∀ (D : Nat) (t : Tp) (c' : Sc), t.dep ≤ D → (nodeLk (lkAll n) c' t).length ≤ t.wt * (D + 1) := fun ih D t c' hd => by
      cases t with
      | box tag key act cs =>
        simp only [nodeLk, Tp.wt, Tp.dep] at hd ⊢
        have h1 := ih c' cs
        have h2 : (Tp.deps cs + 2) * Tp.wts cs ≤ (D + 1) * Tp.wts cs := Nat.mul_le_mul_right _ (by omega)
        rw [Nat.add_mul, Nat.add_mul, Nat.mul_comm (Tp.wts cs)]
        omega
      | «show» e =>
        simp only [nodeLk, Tp.wt]
        have := e.looks_le c'
        have := Nat.le_mul_of_pos_right (e.size + 1) (show 0 < D + 1 by omega)
        omega
      | child d key props =>
        simp only [nodeLk, Tp.wt]
        have := props_len c' props
        have := Nat.le_mul_of_pos_right (ksz key + psz props + 1) (show 0 < D + 1 by omega)
        omega
      | _ => simp [nodeLk]
    have all : ∀ (c : Sc) (ts : List Tp), (lkAll n c ts).length ≤ (Tp.deps ts + 2) * Tp.wts ts := by
      cases n with
      | zero => intro c ts; simp [lkAll]
      | succ n =>
        intro c ts
        simp only [lkAll, List.length_append, len_flat]
        have h1 := Tp.lks_len ts c
        have h2 := sumBy_le (f := fun it : Nm × Tp × Int => (nodeLk (lkAll n) { c with index := it.2.2 } it.2.1).length) (g := fun it => it.2.1.wt) (m := Tp.deps ts + 1) (lawNamed [] (Tp.dis c [] [] 0 ts)) fun it hit => by
          obtain ⟨dd, hdd, e1, e2⟩ := lawNamed_tp _ _ it hit
          obtain ⟨a1, a2, a3⟩ := Tp.dis_tp ts c [] [] 0 dd hdd
          exact (lk_len n c ts).2 (Tp.deps ts) it.2.1 _ (by rw [e1]; exact a1)
        have h3 := lawNamed_sum Tp.wt (Tp.dis c [] [] 0 ts) []
        have h4 := Tp.dis_wt ts c [] [] 0
        have h5 : sumBy (fun it : Nm × Tp × Int => it.2.1.wt) (lawNamed [] (Tp.dis c [] [] 0 ts)) * (Tp.deps ts + 1) ≤ Tp.wts ts * (Tp.deps ts + 1) := Nat.mul_le_mul_right _ (by omega)
        rw [show Tp.deps ts + 2 = 1 + (Tp.deps ts + 1) by omega, Nat.add_mul, Nat.one_mul, Nat.mul_comm (Tp.deps ts + 1)]
        omega
    exact ⟨all c ts, node all⟩
/-! ### paths -/
structure PathOk (p : Path) : Prop where
  sh : ∀ n ∈ p, n.short
  len : p.length ≤ 500
theorem PathOk.dep {p : Path} (h : PathOk p) (k : Nat) : Dep (k + 4) (pathT p) := by
  refine .tup _ _ (by rw [List.length_map]; have := h.len; omega) fun t ht => ?_
  obtain ⟨n, hn, rfl⟩ := List.mem_map.mp ht
  exact Nm.dep (h.sh n hn) k
theorem path_sok : ∀ p : Path, T.soks (p.map Nm.toT) = true
  | [] => rfl
  | n :: p => by simp only [List.map_cons, T.soks, Nm.sok, path_sok p, Bool.and_self]
theorem PathOk.eqb {p : Path} (h : PathOk p) : (pathT p).Eqb := ⟨h.dep 56, path_sok p⟩
theorem nks_path : ∀ {p q : Path}, T.nks (p.map Nm.toT) = T.nks (q.map Nm.toT) → p = q
  | [], [], _ => rfl
  | [], _ :: _, h => by simp [T.nks] at h
  | _ :: _, [], h => by simp [T.nks] at h
  | a :: p, b :: q, h => by
    simp only [List.map_cons, T.nks, List.cons.injEq] at h
    rw [Nm.nk_inj h.1, nks_path h.2]
theorem path_nk {p q : Path} : (pathT p).nk = (pathT q).nk ↔ p = q := by
  constructor
  · intro h
    simp only [pathT, T.nk, NestedKey.tup.injEq] at h
    exact nks_path h
  · intro h; rw [h]
theorem PathOk.snoc {p : Path} {n : Nm} (h : PathOk p) (hn : n.short) (hl : p.length < 500) : PathOk (p ++ [n]) :=
  ⟨fun m hm => (List.mem_append.mp hm).elim (h.sh m) (fun z => by rw [List.mem_singleton.mp z]; exact hn), by simp; omega⟩
theorem PathOk.nil : PathOk [] := ⟨by simp, by simp⟩
def cellsT (cs : List (Path × List Int)) : T := .tup (cs.map fun it => .tup [pathT it.1, intsT it.2])
structure About (H : Hp) (ab : Addr) (X : Pc) : Prop where
  ex : ∃ vp vs vc vr, H ab = some (.lst [vp, vs, vc, vr]) ∧ IsT H X.g.toT vp ∧ IsT H (intsT X.st) vs ∧ IsT H (cellsT X.cs) vc ∧ IsT H (natsT X.pres) vr
theorem About.oth {H H' : Hp} {S : List Addr} {ab : Addr} {X : Pc} (h : About H ab X) (o : Oth S H H') (n : ab ∉ S) : About H' ab X := by
  obtain ⟨vp, vs, vc, vr, e, a, b, c, d⟩ := h.ex
  exact ⟨vp, vs, vc, vr, o.keep _ _ n e, a.oth o, b.oth o, c.oth o, d.oth o⟩
theorem About.ne {H : Hp} {ab p : Addr} {X : Pc} (h : About H ab X) (n : H p = none) : ab ≠ p := let ⟨_, _, _, _, e, _⟩ := h.ex; ne_of_none e n
/-- the context and the paths of its cells -/
structure Pc.Good (X : Pc) : Prop extends Pc.Ok X where
  paths : ∀ it ∈ X.cs, PathOk it.1
def spLawFill (n : Nat) : Sp := fun vs H Q _ => ∃ (X : Pc) (own : Nat) (free : Bool) (o p : Path) (c : Sc) (ts : List Tp) (vo vt vp : V) (ab s sa sp ss l : Addr) (L : List V), vs = [.ref ab, vo, .ref s, .ref l, vt, vp] ∧ About H ab X ∧ X.Good ∧ IsT H (pathT o) vo ∧
  H s = some (.lst [.ref sa, .ref sp, .ref ss, .int c.index]) ∧ H sa = some (.tup (c.cells.map V.int)) ∧ H sp = some (.tup (c.props.map V.int)) ∧ H ss = some (.tup (c.store.map V.int)) ∧ H l = some (.lst L) ∧ IsT H (.tup (Tp.toTs ts)) vt ∧ IsT H (pathT p) vp ∧
  c.Sm ∧ own ≤ X.g.comps.length - 1 ∧ Tp.Oks own (X.g.comps.length - 1) free ts ∧ Tp.wts ts ≤ 400 ∧ Tp.deps ts ≤ 3 ∧ rank (X.g.comps.length - 1) own ts < n ∧ L.length + (Tp.deps ts + 2) * Tp.wts ts ≤ 40000 ∧ ab ≠ l ∧ s ≠ l ∧ PathOk p ∧ p.length + n ≤ 400 ∧
  ∀ v H', IsT H' (.tup (Nd.toTs (fill X n o c ts p))) v → H' l = some (.lst (L ++ (lkAll n c ts).map V.int)) → Oth [l] H H' → Q v H'
def spLawChild (n : Nat) : Sp := fun vs H Q _ => ∃ (X : Pc) (d : Nat) (p : Path) (props : List Int) (vp vq : V) (ab : Addr), vs = [.ref ab, vp, .int (d : Int), vq] ∧ About H ab X ∧ X.Good ∧ IsT H (pathT p) vp ∧ IsT H (intsT props) vq ∧
  d ≤ X.g.comps.length - 1 ∧ Sm props ∧ 3 + 4 * (X.g.comps.length - 1 - d) < n ∧ PathOk p ∧ p.length + n ≤ 400 ∧
  ∀ v H', IsT H' (child X n p d props).toT v → Oth [] H H' → Q v H'
theorem flatN : ∀ ns : List Nat, (ns.map natV).all flatV = true
  | [] => rfl
  | n :: ns => by rw [List.map_cons, List.all_cons, flatN ns]; rfl
theorem inVn (k : Nat) : ∀ ns : List Nat, inV (V.int (k : Int)) (ns.map natV) = decide (k ∈ ns)
  | [] => by simp [inV]
  | n :: ns => by
    have ih := inVn k ns
    unfold inV at ih ⊢
    rw [List.map_cons, List.any_cons, ih]
    have : eqV (natV n) (V.int (k : Int)) = decide (k = n) := by
      show decide ((n : Int) = (k : Int)) = _
      exact decide_eq_decide.mpr (by omega)
    rw [this]
    simp only [List.mem_cons, Bool.decide_or]
theorem flatI : ∀ ns : List Int, (ns.map V.int).all flatV = true
  | [] => rfl
  | n :: ns => by rw [List.map_cons, List.all_cons, flatI ns]; rfl
theorem inVi (k : Int) : ∀ ns : List Int, inV (V.int k) (ns.map V.int) = decide (k ∈ ns)
  | [] => by simp [inV]
  | n :: ns => by
    have ih := inVi k ns
    unfold inV at ih ⊢
    rw [List.map_cons, List.any_cons, ih]
    have : eqV (V.int n) (V.int k) = decide (k = n) := by
      show (n == k) = _
      rw [beq_dec]
      exact decide_eq_decide.mpr ⟨Eq.symm, Eq.symm⟩
    rw [this]
    simp only [List.mem_cons, Bool.decide_or]
theorem at_cell {cs : List Int} {cell : Nat} : atI (cs.map V.int ++ [V.int 0]) (if (((cs.map V.int).length : Nat) : Int) < (cell : Int) then (((cs.map V.int).length : Nat) : Int) else (cell : Int)) = some (.int (cs.getD cell 0)) := by
  by_cases h : cell < cs.length
  · rw [if_neg (by rw [List.length_map]; omega)]
    refine atI_nat ?_
    rw [List.getElem?_append_left (by rw [List.length_map]; exact h), List.getElem?_map, List.getElem?_eq_getElem h, List.getD_eq_getElem?_getD, List.getElem?_eq_getElem h]
    rfl
  · have e : (if (((cs.map V.int).length : Nat) : Int) < (cell : Int) then (((cs.map V.int).length : Nat) : Int) else (cell : Int)) = ((cs.length : Nat) : Int) := by
      rw [List.length_map]; split <;> omega
    rw [e]
    refine atI_nat ?_
    rw [List.getElem?_append_right (by rw [List.length_map]; omega), List.length_map, Nat.sub_self, getD_out h]
    rfl
theorem natAbs_log {x : Int} (h : 0 ≤ x ∧ x < 1000) : x.natAbs.log2 < 1920 := by
  by_cases z : x.natAbs = 0
  · rw [z]; decide
  · exact Nat.lt_trans ((Nat.log2_lt z).mpr (show x.natAbs < 2 ^ 10 by omega)) (by decide)
end Pw
namespace Pw
open PySem PySem.Spec PyProof.Rows L2 PySem.AutoSeq1 PySem.Calls
theorem extend_tup (D : Addr) (us : Array Value) (m : Nat) (t : Addr) (ws : Array Value) (m2 : Nat) (dd : Option Addr) (ss : Array (Option Value)) (long : ¬ (!us.isEmpty && Builtin.List.listTooLong (us.size + ws.size)) = true) (fits : us.size ≤ sizeLine) (both : us.size + ws.size ≤ sizeLine + 1) :
    Meets (Builtin.«list.extend» ⟨[.ref D, .ref t], []⟩) (fun _ R s => s.heap.get? D = some { cls := .type "list", dict := none, data := .seq us m, slots := #[] } ∧
      s.heap.get? t = some { cls := .type "tuple", dict := dd, data := .seq ws m2, slots := ss } ∧
      R (.ok (.ret Value.none)) { s with heap := s.heap.update D (Obj.mapSeq fun x => x ++ ws), toks := s.toks }) :=
  .of_wp fun prog w A R s h => by
    obtain ⟨hp, gs, dr, tk, os⟩ := s
    obtain ⟨hD, ht, hq⟩ := h
    have a1 := AutoSeq1.idx_int
    have a2 := AutoSeq1.sub_tuple_tuple
    have a3 := AutoSeq1.sub_list_list
    have a4 := AutoSeq1.sub_tuple_list
    have a5 := AutoSeq1.sub_list_tuple
    have fit2 : (us ++ ws).size ≤ sizeLine + 1 := by
      rw [Array.size_append]; exact both
    wp_walk using (wpAny_updateSeq hD rfl (hz := fits) (_hz' := fit2)), AutoSeq1.wpAny_loadPart' hD, AutoSeq1.wpAny_loadPart' ht
    exact ⟨_, rfl, hq⟩
def rExtT (K : PySem.W.Frag) : V → List V → Hp → VK → Prop := fun x vs H Q =>
  ∃ (l b : Addr) (xs zs : List V), x = .ref l ∧ vs = [.ref b] ∧ H l = some (.lst xs) ∧ H b = some (.tup zs) ∧ xs.length + zs.length ≤ 500000 ∧ Q .non (upd H l (.lst (xs ++ zs)))
theorem mt_extT {X : Cx} : MtR X "list.extend" (rExtT X.K) := by
  intro pins s σ H x vs v us Q I rx rvs hw
  obtain ⟨l, b, xs, zs, ex, evs, hl, hb, hs, q⟩ := hw
  subst ex
  subst evs
  cases rx
  obtain ⟨ub, eub, rub⟩ := rvs.one
  subst eub
  cases rub
  obtain ⟨zl, il, nl, rl, sl, gl⟩ := I.lstM hl
  obtain ⟨ib, rb, tb, zb⟩ := I.tuple (SqT.of hb)
  obtain ⟨ob, hob, cb, nb, db⟩ := tb
  obtain ⟨c1, d1, dat1, s1⟩ := ob
  simp only at cb db
  subst cb
  subst db
  have lxs := rl.length
  have lzs := rb.length
  have sline : (500000 : Nat) ≤ sizeLine := by decide
  have small : il.toArray.size + ib.toArray.size ≤ sizeLine := by simp only [List.size_toArray]; omega
  have nolong : ¬ (!il.toArray.isEmpty && Builtin.List.listTooLong (il.toArray.size + ib.toArray.size)) = true := by
    rw [notLongL small, Bool.and_false]; exact fun z => Bool.noConfusion z
  refine call_meets F.slot_list_extend ⟨_, gl, rfl⟩ F.entry_list_extend (F.args_list_extend_2 _ _) (extend_tup l il.toArray nl b ib.toArray nb d1 s1 nolong (by omega) (by omega)) ⟨gl, hob, ?_⟩
  exact ⟨.non, _, I.lset (its' := il ++ ib) hl gl (by simp) (rl.append rb) (by rw [List.length_append]; omega), rfl, q⟩
end Pw
namespace Pw
open PySem PySem.Spec PyProof.Rows L2
theorem bo_list : bootBuiltins "list" = some (.type "list") := by decide +kernel
mutual
def Nd.sh1 : Nd → List Nd
  | .text p s => [.text p s]
  | .box p t o a ns => [.box p t o a (Nd.shs ns)]
  | .input p t o c v => [.input p t o c v]
  | .child _ _ _ _ ns => Nd.shs ns
  | .place _ _ => []
def Nd.shs : List Nd → List Nd
  | [] => []
  | n :: ns => n.sh1 ++ Nd.shs ns
end
def Nd.path : Nd → Path
  | .text p _ | .box p _ _ _ _ | .input p _ _ _ _ | .child p _ _ _ _ | .place p _ => p
mutual
def Nd.fl1 : Nd → List Nd
  | .box p t o a ns => .box p t o a ns :: Nd.fls ns
  | n => [n]
/-- shown nodes with all in them -/
def Nd.fls : List Nd → List Nd
  | [] => []
  | n :: ns => n.fl1 ++ Nd.fls ns
end
mutual
def Nd.ht : Nd → Nat
  | .box _ _ _ _ ns => Nd.hts ns + 1
  | .child _ _ _ _ ns => Nd.hts ns + 1
  | _ => 0
def Nd.hts : List Nd → Nat
  | [] => 0
  | n :: ns => max n.ht (Nd.hts ns)
end
mutual
/-- all paths in it are paths -/
def Nd.Pok : Nd → Prop
  | .text p _ => PathOk p
  | .box p _ o _ ns => PathOk p ∧ PathOk o ∧ Nd.Poks ns
  | .input p _ o _ _ => PathOk p ∧ PathOk o
  | .child p _ _ _ ns => PathOk p ∧ Nd.Poks ns
  | .place p _ => PathOk p
def Nd.Poks : List Nd → Prop
  | [] => True
  | n :: ns => n.Pok ∧ Nd.Poks ns
end
mutual
/-- children and places are not shown -/
def Nd.Shn : Nd → Prop
  | .box _ _ _ _ ns => Nd.Shns ns
  | .child _ _ _ _ _ => False
  | .place _ _ => False
  | _ => True
def Nd.Shns : List Nd → Prop
  | [] => True
  | n :: ns => n.Shn ∧ Nd.Shns ns
end
theorem poks_app {b : List Nd} (hb : Nd.Poks b) : ∀ {a : List Nd}, Nd.Poks a → Nd.Poks (a ++ b)
  | [], _ => hb
  | _ :: a, h => ⟨h.1, poks_app hb h.2⟩
theorem shns_app {b : List Nd} (hb : Nd.Shns b) : ∀ {a : List Nd}, Nd.Shns a → Nd.Shns (a ++ b)
  | [], _ => hb
  | _ :: a, h => ⟨h.1, shns_app hb h.2⟩
theorem poks_mem : ∀ {a : List Nd}, Nd.Poks a → ∀ n ∈ a, n.Pok
  | _ :: a, h, n, hn => by
    rcases List.mem_cons.mp hn with rfl | hn
    · exact h.1
    · exact poks_mem h.2 n hn
theorem shns_mem : ∀ {a : List Nd}, Nd.Shns a → ∀ n ∈ a, n.Shn
  | _ :: a, h, n, hn => by
    rcases List.mem_cons.mp hn with rfl | hn
    · exact h.1
    · exact shns_mem h.2 n hn
theorem hts_mem {n : Nd} : ∀ {a : List Nd}, n ∈ a → n.ht ≤ Nd.hts a
  | m :: a, hn => by
    simp only [Nd.hts]
    rcases List.mem_cons.mp hn with rfl | hn
    · omega
    · have := hts_mem hn; omega
theorem ncnts_mem {n : Nd} : ∀ {a : List Nd}, n ∈ a → n.cnt ≤ Nd.cnts a
  | m :: a, hn => by
    simp only [Nd.cnts]
    rcases List.mem_cons.mp hn with rfl | hn
    · omega
    · have := ncnts_mem hn; omega
theorem ncnts_app (b : List Nd) : ∀ a : List Nd, Nd.cnts (a ++ b) = Nd.cnts a + Nd.cnts b
  | [] => by simp [Nd.cnts]
  | n :: a => by simp only [List.cons_append, Nd.cnts, ncnts_app b a]; omega
theorem hts_app (b : List Nd) : ∀ a : List Nd, Nd.hts (a ++ b) = max (Nd.hts a) (Nd.hts b)
  | [] => by simp [Nd.hts]
  | n :: a => by simp only [List.cons_append, Nd.hts, hts_app b a]; omega
theorem cnt_pos (n : Nd) : 1 ≤ n.cnt := by cases n <;> simp [Nd.cnt]
theorem ncnts_len : ∀ a : List Nd, a.length ≤ Nd.cnts a
  | [] => Nat.le_refl _
  | n :: a => by have := cnt_pos n; have := ncnts_len a; simp only [List.length_cons, Nd.cnts]; omega
theorem shs_app (b : List Nd) : ∀ a : List Nd, Nd.shs (a ++ b) = Nd.shs a ++ Nd.shs b
  | [] => rfl
  | n :: a => by simp only [List.cons_append, Nd.shs, shs_app b a, List.append_assoc]
theorem fls_app (b : List Nd) : ∀ a : List Nd, Nd.fls (a ++ b) = Nd.fls a ++ Nd.fls b
  | [] => rfl
  | n :: a => by simp only [List.cons_append, Nd.fls, fls_app b a, List.append_assoc]
mutual
theorem Nd.sh1_ok : ∀ n : Nd, Nd.Shns n.sh1 ∧ (n.Pok → Nd.Poks n.sh1) ∧ Nd.cnts n.sh1 ≤ n.cnt ∧ Nd.hts n.sh1 ≤ n.ht
  | .text p s => ⟨⟨trivial, trivial⟩, fun h => ⟨h, trivial⟩, by simp [Nd.sh1, Nd.cnts, Nd.cnt], by simp [Nd.sh1, Nd.hts, Nd.ht]⟩
  | .box p t o a ns => by
    obtain ⟨a1, a2, a3, a4⟩ := Nd.shs_ok ns
    exact ⟨⟨a1, trivial⟩, fun h => ⟨⟨h.1, h.2.1, a2 h.2.2⟩, trivial⟩, by simp only [Nd.sh1, Nd.cnts, Nd.cnt]; omega, by simp only [Nd.sh1, Nd.hts, Nd.ht]; omega⟩
  | .input p t o c v => ⟨⟨trivial, trivial⟩, fun h => ⟨h, trivial⟩, by simp [Nd.sh1, Nd.cnts, Nd.cnt], by simp [Nd.sh1, Nd.hts, Nd.ht]⟩
  | .child p c ps rs ns => by
    obtain ⟨a1, a2, a3, a4⟩ := Nd.shs_ok ns
    exact ⟨a1, fun h => a2 h.2, by simp only [Nd.sh1, Nd.cnt]; omega, by simp only [Nd.sh1, Nd.ht]; omega⟩
  | .place p k => ⟨trivial, fun _ => trivial, by simp [Nd.sh1, Nd.cnts], by simp [Nd.sh1, Nd.hts]⟩
theorem Nd.shs_ok : ∀ ns : List Nd, Nd.Shns (Nd.shs ns) ∧ (Nd.Poks ns → Nd.Poks (Nd.shs ns)) ∧ Nd.cnts (Nd.shs ns) ≤ Nd.cnts ns ∧ Nd.hts (Nd.shs ns) ≤ Nd.hts ns
  | [] => ⟨trivial, fun _ => trivial, Nat.le_refl _, Nat.le_refl _⟩
  | n :: ns => by
    obtain ⟨a1, a2, a3, a4⟩ := Nd.sh1_ok n
    obtain ⟨b1, b2, b3, b4⟩ := Nd.shs_ok ns
    refine ⟨shns_app b1 a1, fun h => poks_app (b2 h.2) (a2 h.1), ?_, ?_⟩
    · simp only [Nd.shs, Nd.cnts, ncnts_app]; omega
    · simp only [Nd.shs, Nd.hts, hts_app]; omega
end
mutual
theorem Nd.sh1_id : ∀ n : Nd, n.Shn → n.sh1 = [n]
  | .text _ _, _ | .input _ _ _ _ _, _ => rfl
  | .box p t o a ns, h => by simp only [Nd.sh1, Nd.shs_id ns h]
  | .child _ _ _ _ _, h => h.elim
  | .place _ _, h => h.elim
theorem Nd.shs_id : ∀ ns : List Nd, Nd.Shns ns → Nd.shs ns = ns
  | [], _ => rfl
  | n :: ns, h => by simp only [Nd.shs, Nd.sh1_id n h.1, Nd.shs_id ns h.2, List.cons_append, List.nil_append]
end
mutual
theorem Nd.fl1_ok : ∀ n : Nd, n.fl1.length ≤ n.cnt ∧ (n.Pok → Nd.Poks n.fl1) ∧ (n.Shn → Nd.Shns n.fl1)
  | .text p s => ⟨by simp [Nd.fl1, Nd.cnt], fun h => ⟨h, trivial⟩, fun h => ⟨h, trivial⟩⟩
  | .box p t o a ns => by
    obtain ⟨a1, a2, a3⟩ := Nd.fls_ok ns
    exact ⟨by simp only [Nd.fl1, Nd.cnt, List.length_cons]; omega, fun h => ⟨h, a2 h.2.2⟩, fun h => ⟨h, a3 h⟩⟩
  | .input p t o c v => ⟨by simp [Nd.fl1, Nd.cnt], fun h => ⟨h, trivial⟩, fun h => ⟨h, trivial⟩⟩
  | .child p c ps rs ns => ⟨by simp [Nd.fl1, Nd.cnt], fun h => ⟨h, trivial⟩, fun h => h.elim⟩
  | .place p k => ⟨by simp [Nd.fl1, Nd.cnt], fun h => ⟨h, trivial⟩, fun h => h.elim⟩
theorem Nd.fls_ok : ∀ ns : List Nd, (Nd.fls ns).length ≤ Nd.cnts ns ∧ (Nd.Poks ns → Nd.Poks (Nd.fls ns)) ∧ (Nd.Shns ns → Nd.Shns (Nd.fls ns))
  | [] => ⟨Nat.le_refl _, fun _ => trivial, fun _ => trivial⟩
  | n :: ns => by
    obtain ⟨a1, a2, a3⟩ := Nd.fl1_ok n
    obtain ⟨b1, b2, b3⟩ := Nd.fls_ok ns
    exact ⟨by simp only [Nd.fls, Nd.cnts, List.length_append]; omega, fun h => poks_app (b2 h.2) (a2 h.1), fun h => shns_app (b3 h.2) (a3 h.1)⟩
end
/-! ### the line from outside to a path -/
mutual
def Nd.ln1 (p : Path) : Nd → List Nd
  | .text q s => if q = p then [.text q s] else []
  | .box q t o a ns => if q = p then [.box q t o a ns] else if Nd.lns p ns = [] then [] else .box q t o a ns :: Nd.lns p ns
  | .input q t o c v => if q = p then [.input q t o c v] else []
  | .child q c ps rs ns => if q = p then [.child q c ps rs ns] else []
  | .place q k => if q = p then [.place q k] else []
def Nd.lns (p : Path) : List Nd → List Nd
  | [] => []
  | n :: ns => if n.ln1 p = [] then Nd.lns p ns else n.ln1 p
end
theorem lns_skip {p : Path} (b : List Nd) : ∀ a : List Nd, (∀ n ∈ a, n.ln1 p = []) → Nd.lns p (a ++ b) = Nd.lns p b
  | [], _ => rfl
  | n :: a, h => by
    simp only [List.cons_append, Nd.lns, if_pos (h n List.mem_cons_self)]
    exact lns_skip b a fun m hm => h m (List.mem_cons_of_mem _ hm)
mutual
theorem Nd.ln1_ok (p : Path) : ∀ n : Nd, (n.ln1 p).length ≤ n.ht + 1 ∧ (n.Pok → Nd.Poks (n.ln1 p)) ∧ (n.Shn → Nd.Shns (n.ln1 p))
  | .text q s => by
    simp only [Nd.ln1]
    split
    · exact ⟨by simp, fun h => ⟨h, trivial⟩, fun h => ⟨h, trivial⟩⟩
    · exact ⟨by simp, fun _ => trivial, fun _ => trivial⟩
  | .box q t o a ns => by
    obtain ⟨a1, a2, a3⟩ := Nd.lns_ok p ns
    simp only [Nd.ln1]
    split
    · exact ⟨by simp, fun h => ⟨h, trivial⟩, fun h => ⟨h, trivial⟩⟩
    · split
      · exact ⟨by simp, fun _ => trivial, fun _ => trivial⟩
      · exact ⟨by simp only [List.length_cons, Nd.ht]; omega, fun h => ⟨h, a2 h.2.2⟩, fun h => ⟨h, a3 h⟩⟩
  | .input q t o c v => by
    simp only [Nd.ln1]
    split
    · exact ⟨by simp, fun h => ⟨h, trivial⟩, fun h => ⟨h, trivial⟩⟩
    · exact ⟨by simp, fun _ => trivial, fun _ => trivial⟩
  | .child q c ps rs ns => by
    simp only [Nd.ln1]
    split
    · exact ⟨by simp, fun h => ⟨h, trivial⟩, fun h => h.elim⟩
    · exact ⟨by simp, fun _ => trivial, fun _ => trivial⟩
  | .place q k => by
    simp only [Nd.ln1]
    split
    · exact ⟨by simp, fun h => ⟨h, trivial⟩, fun h => h.elim⟩
    · exact ⟨by simp, fun _ => trivial, fun _ => trivial⟩
theorem Nd.lns_ok (p : Path) : ∀ ns : List Nd, (Nd.lns p ns).length ≤ Nd.hts ns + 1 ∧ (Nd.Poks ns → Nd.Poks (Nd.lns p ns)) ∧ (Nd.Shns ns → Nd.Shns (Nd.lns p ns))
  | [] => ⟨by simp [Nd.lns], fun _ => trivial, fun _ => trivial⟩
  | n :: ns => by
    obtain ⟨a1, a2, a3⟩ := Nd.ln1_ok p n
    obtain ⟨b1, b2, b3⟩ := Nd.lns_ok p ns
    simp only [Nd.lns, Nd.hts]
    split
    · exact ⟨by omega, fun h => b2 h.2, fun h => b3 h.2⟩
    · exact ⟨by omega, fun h => a2 h.1, fun h => a3 h.1⟩
end
/-- what an event means on a line, the innermost first -/
def meanOf : List Nd → Option (Path × Nat)
  | [] => none
  | .box _ _ o (some a) _ :: _ => some (o, a)
  | _ :: r => meanOf r
def meanT : Option (Path × Nat) → T
  | none => .non
  | some (o, a) => .tup [pathT o, .int (a : Int)]
def fieldOf (l : List Nd) : Option (Path × Nat) := match l.getLast? with
  | some (.input _ _ o c _) => some (o, c)
  | _ => none
theorem meanOf_pok : ∀ {l : List Nd}, Nd.Poks l → ∀ x ∈ meanOf l, PathOk x.1
  | [], _, x, h => by cases h
  | .box _ _ o (some a) _ :: r, hp, x, h => by cases h; exact hp.1.2.1
  | .box _ _ o none _ :: r, hp, x, h => meanOf_pok hp.2 x h
  | .text _ _ :: r, hp, x, h => meanOf_pok hp.2 x h
  | .input _ _ _ _ _ :: r, hp, x, h => meanOf_pok hp.2 x h
  | .child _ _ _ _ _ :: r, hp, x, h => meanOf_pok hp.2 x h
  | .place _ _ :: r, hp, x, h => meanOf_pok hp.2 x h
theorem meanT_dep {m : Option (Path × Nat)} (h : ∀ x ∈ m, PathOk x.1) (k : Nat) : Dep (k + 5) (meanT m) := by
  cases m with
  | none => exact .non _
  | some x => exact .tup _ _ (by simp) (by simp only [List.mem_cons, List.not_mem_nil, or_false, forall_eq_or_imp, forall_eq]; exact ⟨(h x rfl).dep k, (Dep.int _ _)⟩)
/-! ### a page's own shape -/
theorem poks_of : ∀ {a : List Nd}, (∀ n ∈ a, n.Pok) → Nd.Poks a
  | [], _ => trivial
  | n :: a, h => ⟨h n List.mem_cons_self, poks_of fun m hm => h m (List.mem_cons_of_mem _ hm)⟩
theorem hts_of {m : Nat} : ∀ {a : List Nd}, (∀ n ∈ a, n.ht ≤ m) → Nd.hts a ≤ m
  | [], _ => Nat.zero_le _
  | n :: a, h => by
    have := h n List.mem_cons_self
    have := hts_of fun m hm => h m (List.mem_cons_of_mem _ hm)
    simp only [Nd.hts]
    omega
theorem fill_ht (X : Pc) : ∀ (n : Nat) (o : Path) (c : Sc) (ts : List Tp) (p : Path), Nd.hts (fill X n o c ts p) ≤ n
  | 0, _, _, _, _ => Nat.zero_le _
  | n + 1, o, c, ts, p => by
    refine hts_of fun nd hnd => ?_
    simp only [fill] at hnd
    obtain ⟨it, _, rfl⟩ := List.mem_map.mp hnd
    generalize it.2.1 = t
    cases t with
    | box tag key act cs => simp only [nodeOf, Nd.ht]; have := fill_ht X n o { c with index := it.2.2 } cs (p ++ [it.1]); omega
    | child d key props => simp only [nodeOf, childOf, Nd.ht]; have := fill_ht X n (p ++ [it.1]) (X.sc (p ++ [it.1]) d (props.map (E.val { c with index := it.2.2 }))) (X.comp d).cs (p ++ [it.1]); omega
    | part k =>
      simp only [nodeOf]
      split
      · simp only [childOf, Nd.ht]; have := fill_ht X n (p ++ [it.1]) (X.sc (p ++ [it.1]) (X.g.parts.getD k 0) []) (X.comp (X.g.parts.getD k 0)).cs (p ++ [it.1]); omega
      · simp [Nd.ht]
    | _ => simp [nodeOf, Nd.ht]
theorem named_short : ∀ (ds : List Dr) (tk : List Nm), (∀ d ∈ ds, d.other.short) → (∀ d ∈ ds, d.wish.short) → ∀ x ∈ lawNamed tk ds, x.1.short
  | [], tk, _, _, x, h => nomatch h
  | d :: ds, tk, h1, h2, x, h => by
    simp only [lawNamed, List.mem_cons] at h
    rcases h with rfl | h
    · dsimp only
      unfold lawName
      have a := h1 d List.mem_cons_self
      have b := h2 d List.mem_cons_self
      cases e : d.wish with
      | key t v =>
        dsimp only
        rw [e] at b
        split
        · exact a
        · exact b
      | _ => dsimp only; rw [e] at b; exact b
    · exact named_short ds _ (fun y hy => h1 y (List.mem_cons_of_mem _ hy)) (fun y hy => h2 y (List.mem_cons_of_mem _ hy)) x h
mutual
theorem Tp.dis1_short : ∀ (t : Tp) (c : Sc) (addr reps : List Int), addr.length + 2 * t.dep ≤ 1000 → reps.length + t.dep ≤ 1000 → ∀ d ∈ t.dis1 c addr reps, d.other.short ∧ d.wish.short
  | .when e cs os, c, addr, reps, h1, h2, d, h => by
    simp only [Tp.dep] at h1 h2
    simp only [Tp.dis1] at h
    split at h
    · exact Tp.dis_short os c _ reps 0 (by simp; omega) (by omega) d h
    · exact Tp.dis_short cs c _ reps 0 (by simp; omega) (by omega) d h
  | .each e cs, c, addr, reps, h1, h2, d, h => by
    simp only [Tp.dep] at h1 h2
    simp only [Tp.dis1, List.mem_flatMap] at h
    obtain ⟨n, _, h⟩ := h
    exact Tp.dis_short cs _ addr _ 0 (by omega) (by simp; omega) d h
  | .text _, c, addr, reps, h1, h2, d, h | .show _, c, addr, reps, h1, h2, d, h | .input _ _, c, addr, reps, h1, h2, d, h => by
    simp only [Tp.dis1, List.mem_singleton] at h
    subst h
    exact ⟨⟨by omega, by omega⟩, ⟨by omega, by omega⟩⟩
  | .part k, c, addr, reps, h1, h2, d, h => by
    simp only [Tp.dis1, List.mem_singleton] at h
    subst h
    exact ⟨⟨by omega, by omega⟩, trivial⟩
  | .box _ key _ _, c, addr, reps, h1, h2, d, h | .child _ key _, c, addr, reps, h1, h2, d, h => by
    simp only [Tp.dis1, List.mem_singleton] at h
    subst h
    refine ⟨⟨by omega, by omega⟩, ?_⟩
    cases key with
    | none => exact ⟨by omega, by omega⟩
    | some e => show addr.length ≤ 1000; omega
theorem Tp.dis_short : ∀ (ts : List Tp) (c : Sc) (before reps : List Int) (k : Nat), before.length + 2 * Tp.deps ts + 1 ≤ 1000 → reps.length + Tp.deps ts ≤ 1000 → ∀ d ∈ Tp.dis c before reps k ts, d.other.short ∧ d.wish.short
  | [], c, before, reps, k, h1, h2, d, h => nomatch h
  | t :: ts, c, before, reps, k, h1, h2, d, h => by
    simp only [Tp.deps] at h1 h2
    simp only [Tp.dis, List.mem_append] at h
    rcases h with h | h
    · exact Tp.dis1_short t c _ reps (by simp; omega) (by omega) d h
    · exact Tp.dis_short ts c before reps (k + 1) (by omega) (by omega) d h
end
theorem fill_pok {X : Pc} (h : X.Ok) : ∀ (n own : Nat) (free : Bool) (o : Path) (c : Sc) (ts : List Tp) (p : Path), own ≤ X.g.comps.length - 1 → Tp.Oks own (X.g.comps.length - 1) free ts → Tp.deps ts ≤ 3 → PathOk o → PathOk p → p.length + n ≤ 400 → Nd.Poks (fill X n o c ts p)
  | 0, _, _, _, _, _, _, _, _, _, _, _, _ => trivial
  | n + 1, own, free, o, c, ts, p, ho, hk, hd, po, pp, hl => by
    have kid : ∀ (q : Path) (d : Nat) (props : List Int), d ≤ X.g.comps.length - 1 → PathOk q → q.length + n ≤ 400 → (childOf X (fill X n) (lkAll n) q d props).Pok := fun q d props h2 hq hl2 => by
      have cd := h.comp h2
      exact ⟨hq, fill_pok h n d true q (X.sc q d props) (X.comp d).cs q h2 cd.oks cd.deps hq hq hl2⟩
    refine poks_of fun nd hnd => ?_
    simp only [fill] at hnd
    obtain ⟨it, hit, rfl⟩ := List.mem_map.mp hnd
    have sh := named_short _ [] (fun d hd' => (Tp.dis_short ts c [] [] 0 (by simp; omega) (by simp; omega) d hd').1) (fun d hd' => (Tp.dis_short ts c [] [] 0 (by simp; omega) (by simp; omega) d hd').2) it hit
    obtain ⟨dd, hdd, h1, h2⟩ := lawNamed_tp _ _ it hit
    obtain ⟨a1, ⟨fr, a2⟩, a3, a4⟩ := Tp.dis_ok ts c [] [] 0 hk dd hdd
    rw [← h1] at a1 a2 a3
    have here : PathOk (p ++ [it.1]) := pp.snoc sh (by omega)
    have hl2 : (p ++ [it.1]).length + n ≤ 400 := by simp; omega
    generalize it.2.1 = t at a1 a2 a3
    cases t with
    | when _ _ _ => cases a1
    | each _ _ => cases a1
    | text s => exact here
    | «show» s => exact here
    | input _ _ => exact ⟨here, po⟩
    | box tag key act cs =>
      simp only [Tp.dep] at a3
      exact ⟨here, po, fill_pok h n own fr o { c with index := it.2.2 } cs (p ++ [it.1]) ho a2.2.2.2 (by omega) po here hl2⟩
    | child d key props => exact kid _ d _ a2.2.1 here hl2
    | part k =>
      simp only [nodeOf]
      split
      · rename_i hin
        have hk := h.pres k hin
        have hp := h.g.parts _ (List.getElem_mem hk)
        have e3 : X.g.parts.getD k 0 = X.g.parts[k] := by rw [List.getD_eq_getElem?_getD, List.getElem?_eq_getElem hk]; rfl
        rw [e3]
        exact kid _ _ _ (by omega) here hl2
      · exact here
/-! ### promises -/
def spShown (n : Nat) : Sp := fun vs H Q _ => ∃ (ns : List Nd) (v : V), vs = [v] ∧ IsT H (.tup (Nd.toTs ns)) v ∧ Nd.hts ns < n ∧ Nd.cnts ns ≤ 80000 ∧
  ∀ r H', IsT H' (.tup (Nd.toTs (Nd.shs ns))) r → Oth [] H H' → Q r H'
def spFlat (n : Nat) : Sp := fun vs H Q _ => ∃ (ns : List Nd) (v : V), vs = [v] ∧ IsT H (.tup (Nd.toTs ns)) v ∧ Nd.hts ns < n ∧ Nd.cnts ns ≤ 80000 ∧
  ∀ p H' rs, H p = none → H' p = some (.lst rs) → Paired (IsT H') ((Nd.fls (Nd.shs ns)).map Nd.toT) rs → Oth [] H H' → Q (.ref p) H'
def spChain (n : Nat) : Sp := fun vs H Q _ => ∃ (ns : List Nd) (p : Path) (v vp : V), vs = [v, vp] ∧ IsT H (.tup (Nd.toTs ns)) v ∧ IsT H (pathT p) vp ∧ Nd.hts ns < n ∧ Nd.Poks ns ∧ PathOk p ∧ n ≤ 1000 ∧
  ∀ q H' rs, H q = none → H' q = some (.lst rs) → Paired (IsT H') ((Nd.lns p ns).map Nd.toT) rs → Oth [] H H' → Q (.ref q) H'
def spLine (n : Nat) : Sp := fun vs H Q _ => ∃ (ns : List Nd) (p : Path) (v vp : V), vs = [v, vp] ∧ IsT H (.tup (Nd.toTs ns)) v ∧ IsT H (pathT p) vp ∧ Nd.hts ns < n ∧ Nd.Poks ns ∧ PathOk p ∧ n ≤ 1000 ∧
  ∀ r H', IsT H' (.tup (Nd.toTs (Nd.lns p ns))) r → Oth [] H H' → Q r H'
def spMean (n : Nat) : Sp := fun vs H Q _ => ∃ (ns : List Nd) (p : Path) (v vp : V), vs = [v, vp] ∧ IsT H (.tup (Nd.toTs ns)) v ∧ IsT H (pathT p) vp ∧ Nd.hts ns < n ∧ Nd.Poks ns ∧ PathOk p ∧ n ≤ 1000 ∧
  ∀ r H', IsT H' (meanT (meanOf (Nd.lns p ns).reverse)) r → Oth [] H H' → Q r H'
def spField (n : Nat) : Sp := fun vs H Q _ => ∃ (ns : List Nd) (p : Path) (v vp : V), vs = [v, vp] ∧ IsT H (.tup (Nd.toTs ns)) v ∧ IsT H (pathT p) vp ∧ Nd.hts ns < n ∧ Nd.Poks ns ∧ PathOk p ∧ n ≤ 1000 ∧
  ∀ r H', IsT H' (meanT (fieldOf (Nd.lns p ns))) r → Oth [] H H' → Q r H'
def Nd.kind : Nd → Str
  | .text _ _ => "text" | .box .. => "box" | .input .. => "input" | .child .. => "child" | .place .. => "place"
theorem Nd.kindAt {H : Hp} {v : V} : ∀ (n : Nd), IsT H n.toT v → ∃ a vp r, v = .ref a ∧ H a = some (.tup (.str n.kind :: vp :: r)) ∧ IsT H (pathT n.path) vp
  | .text .., h => by obtain ⟨a, _, x, y, rfl, e, p, q, _⟩ := IsT.inv3 h; rw [p.of_str] at e; exact ⟨a, _, _, rfl, e, q⟩
  | .box .., h => by
    obtain ⟨a, xs, rfl, e, p⟩ := IsT.inv h
    cases p with | cons r1 p => cases p with | cons r2 p => rw [r1.of_str] at e; exact ⟨a, _, _, rfl, e, r2⟩
  | .input .., h => by
    obtain ⟨a, xs, rfl, e, p⟩ := IsT.inv h
    cases p with | cons r1 p => cases p with | cons r2 p => rw [r1.of_str] at e; exact ⟨a, _, _, rfl, e, r2⟩
  | .child .., h => by
    obtain ⟨a, xs, rfl, e, p⟩ := IsT.inv h
    cases p with | cons r1 p => cases p with | cons r2 p => rw [r1.of_str] at e; exact ⟨a, _, _, rfl, e, r2⟩
  | .place .., h => by obtain ⟨a, _, x, y, rfl, e, p, q, _⟩ := IsT.inv3 h; rw [p.of_str] at e; exact ⟨a, _, _, rfl, e, q⟩
theorem IsT.inv6 {H : Hp} {v : V} {t1 t2 t3 t4 t5 t6 : T} (h : IsT H (.tup [t1, t2, t3, t4, t5, t6]) v) : ∃ a x1 x2 x3 x4 x5 x6, v = .ref a ∧ H a = some (.tup [x1, x2, x3, x4, x5, x6]) ∧ IsT H t1 x1 ∧ IsT H t2 x2 ∧ IsT H t3 x3 ∧ IsT H t4 x4 ∧ IsT H t5 x5 ∧ IsT H t6 x6 := by
  obtain ⟨a, xs, rfl, e, p⟩ := h.inv
  cases p with | cons p1 p => cases p with | cons p2 p => cases p with | cons p3 p => cases p with | cons p4 p => cases p with | cons p5 p => cases p with | cons p6 p => cases p; exact ⟨a, _, _, _, _, _, _, rfl, e, p1, p2, p3, p4, p5, p6⟩
theorem IsT.mk6 {H : Hp} {a : Addr} {t1 t2 t3 t4 t5 t6 : T} {x1 x2 x3 x4 x5 x6 : V} (e : H a = some (.tup [x1, x2, x3, x4, x5, x6])) (p1 : IsT H t1 x1) (p2 : IsT H t2 x2) (p3 : IsT H t3 x3) (p4 : IsT H t4 x4) (p5 : IsT H t5 x5) (p6 : IsT H t6 x6) : IsT H (.tup [t1, t2, t3, t4, t5, t6]) (.ref a) :=
  .mk e (.cons p1 (.cons p2 (.cons p3 (.cons p4 (.cons p5 (.cons p6 .nil))))))
theorem Nd.pok_path {n : Nd} (h : n.Pok) : PathOk n.path := by
  cases n with
  | text _ _ => exact h
  | place _ _ => exact h
  | _ => exact h.1
end Pw
namespace Pw
open PySem PySem.Spec PyProof.Rows L2
/-- a for over a tuple, backwards -/
theorem for_revT {K : PySem.W.Frag} {a : Addr} {xs : List V} {g : TG} {tb : TS} {D : Ends} {σ : L2.St} {H : Hp} (Pv : Nat → L2.St → Hp → Prop) (first : Pv 0 σ H) (stays : ∀ i σ H, Pv i σ H → SqT K H a xs)
    (turn : ∀ i x σ H, i < xs.length → xs[xs.length - 1 - i]? = some x → Pv i σ H → g x σ H fun σ2 H2 => tb { D with nx := Pv (i + 1), ct := Pv (i + 1), bk := D.nx } σ2 H2) (last : ∀ σ H, Pv xs.length σ H → D.nx σ H) :
    ∃ W : Nat → Nat → L2.St → Hp → Prop, (∃ m, W 0 m σ H) ∧ ∀ i m σ H, W i m σ H →
      ((RT.ItvT K a xs.length).stop i H ∧ D.nx σ H) ∨ ((RT.ItvT K a xs.length).go i H ∧ ∃ N : L2.St → Hp → Prop, (∀ σ' H', N σ' H' → ∃ m', m' < m ∧ W (i + 1) m' σ' H') ∧ ∀ x H', (RT.ItvT K a xs.length).yld i H x H' → g x σ H' fun σ2 H2 => tb { D with nx := N, ct := N, bk := D.nx } σ2 H2) := by
  refine ⟨fun i m σ H => m + i = xs.length ∧ Pv i σ H, ⟨xs.length, rfl, first⟩, ?_⟩
  rintro i m σ H ⟨e, p⟩
  have st := stays i σ H p
  rcases Nat.lt_or_ge i xs.length with lt | ge
  · have ex : xs[xs.length - 1 - i]? = some (xs[xs.length - 1 - i]'(by omega)) := List.getElem?_eq_getElem _
    refine .inr ⟨⟨lt, xs, _, st, ex⟩, Pv (i + 1), fun σ' H' p' => ⟨m - 1, by omega, by omega, p'⟩, fun x H' y => ?_⟩
    obtain ⟨rfl, y⟩ := y
    exact turn i x σ _ lt (y xs st) p
  · obtain rfl : i = xs.length := by omega
    exact .inl ⟨Nat.le_refl _, last σ H p⟩
theorem ln1_hit {p : Path} {n : Nd} (h : n.path = p) : n.ln1 p = [n] := by
  cases n <;> (simp only [Nd.path] at h; simp only [Nd.ln1, if_pos h])
theorem ln1_leaf {p : Path} {n : Nd} (h : n.path ≠ p) (hb : n.kind ≠ "box") : n.ln1 p = [] := by
  cases n with
  | box _ _ _ _ _ => exact absurd rfl hb
  | _ => (simp only [Nd.path] at h; simp only [Nd.ln1, if_neg h])
theorem lns_drop {p : Path} {ns : List Nd} {j : Nat} {n : Nd} (gn : ns[j]? = some n) (h : ∀ m ∈ ns.take j, m.ln1 p = []) (hn : n.ln1 p ≠ []) : Nd.lns p ns = n.ln1 p := by
  have hj : j < ns.length := (List.getElem?_eq_some_iff.mp gn).1
  have e3 : n = ns[j] := by rw [List.getElem?_eq_getElem hj] at gn; exact (Option.some.inj gn).symm
  have e1 : ns = ns.take j ++ n :: ns.drop (j + 1) := by rw [e3, ← List.drop_eq_getElem_cons hj, List.take_append_drop]
  rw [e1, lns_skip _ _ h, Nd.lns, if_neg hn]
theorem lns_none {p : Path} : ∀ {ns : List Nd}, (∀ m ∈ ns, m.ln1 p = []) → Nd.lns p ns = []
  | [], _ => rfl
  | n :: ns, h => by
    rw [Nd.lns, if_pos (h n List.mem_cons_self)]
    exact lns_none fun m hm => h m (List.mem_cons_of_mem _ hm)
theorem take_none {p : Path} {ns : List Nd} {j : Nat} {n : Nd} (gn : ns[j]? = some n) (h : ∀ m ∈ ns.take j, m.ln1 p = []) (hn : n.ln1 p = []) : ∀ m ∈ ns.take (j + 1), m.ln1 p = [] := fun m hm => by
  rw [take_snoc gn] at hm
  rcases List.mem_append.mp hm with q | q
  · exact h m q
  · rw [List.mem_singleton.mp q]; exact hn
/-- a node that an event means something on -/
def Nd.acts : Nd → Option (Path × Nat)
  | .box _ _ o (some a) _ => some (o, a)
  | _ => none
theorem meanOf_skip (b : List Nd) : ∀ a : List Nd, (∀ n ∈ a, n.acts = none) → meanOf (a ++ b) = meanOf b
  | [], _ => rfl
  | n :: a, h => by
    have h1 := h n List.mem_cons_self
    have ih := meanOf_skip b a fun m hm => h m (List.mem_cons_of_mem _ hm)
    rw [List.cons_append]
    cases n with
    | box q t o act inner =>
      cases act with
      | none => exact ih
      | some x => cases h1
    | _ => exact ih
theorem meanOf_hit {n : Nd} {x : Path × Nat} (h : n.acts = some x) (r : List Nd) : meanOf (n :: r) = some x := by
  cases n with
  | box q t o act inner =>
    cases act with
    | none => cases h
    | some y => exact h
  | _ => cases h
theorem meanOf_none : ∀ {l : List Nd}, (∀ n ∈ l, n.acts = none) → meanOf l = none := fun {l} h => by
  have := meanOf_skip [] l h
  simpa [meanOf] using this
theorem rev_take {α : Type} {l : List α} {i : Nat} {x : α} (h : l[l.length - 1 - i]? = some x) (hi : i < l.length) : l.reverse[i]? = some x := by
  rw [List.getElem?_reverse hi]
  exact h
theorem sl_last {K : PySem.W.Frag} {H : Hp} {a : Addr} {xs : List V} {Q : VK} (ha : H a = some (.tup xs)) (q : ∀ (c : Addr) (H' : Hp), Oth [] H H' → H' c = some (.tup (xs.drop (xs.length - 1))) → Q (.ref c) H') : rSlA K (.ref a) (some (-1)) none H Q := by
  have e : HT.sIx xs.length 0 (some (-1)) = xs.length - 1 := by
    show (if (-1 : Int) < 0 then ((-1 : Int) + (xs.length : Int)).toNat else min (-1 : Int).toNat xs.length) = _
    rw [if_pos (by decide)]
    omega
  refine ⟨a, xs, rfl, SqT.of ha, fun h => ?_, fun h p hp => ?_⟩
  · have z := h.1
    rw [e] at z
    exact q a H Oth.refl (by rw [z, List.drop_zero]; exact ha)
  · refine q p _ (Oth.new hp) ?_
    rw [upd_same]
    unfold cutV
    rw [HT.sIx_none, e, List.take_of_length_le (by rw [List.length_drop]; omega)]
end Pw
namespace Pw
open PySem PySem.Spec PyProof.Rows L2
section
variable {X : Cx}
/-- one pair is put in -/
theorem dictSetN {pins : List (Addr × Obj)} {σ : L2.St} {H : Hp} {s : Shared} {E : Value → Shared → Prop} {a : Addr} {y z : V} {u r : Value} {Nx : Hp → Prop} {Q : Unit → Shared → Prop} (hu : X.A.units + 20 < cLine) (I : Inv X pins σ H s) (ry : RelV y u) (rz : RelV z r)
    (h : rSetN X.prog X.w (.ref a) y z H Nx) (q : ∀ s' H', Inv X pins σ H' s' → Nx H' → Q () s') : wpAny (model X.prog X.w) X.A (dictSet a u r) Q E s := by
  obtain ⟨_, b, k, kvs, e, rfl, hk, hd, hl, nx⟩ := h
  cases e
  obtain rfl : u = Value.ref b := ry
  obtain ⟨φ, ea⟩ := hd.is
  obtain ⟨xs, zl, hs, rel, dd⟩ := hd.open I.hok
  have hx : xs.length ≤ sizeLine := by rw [← Paired.length rel]; exact zl
  have key := hk.ok (P := X.prog) (w := X.w) I.hok
  unfold dictSet
  refine wpAny_holding (wpAny_bind ((nestedKind X.prog X.w).pyHash (by show X.A.units + 8 < cLine; omega) key ?_))
  refine wpAny_dictSetHashed_heap (knd := nestedKind X.prog X.w) (s := { s with toks := s.toks + (nestedKind X.prog X.w).draws k }) (hsz := hx) (by show X.A.units + 8 < cLine; omega) key dd fun h' dd' hs' => ?_
  have he : ∃ o, h'.get? a = some o := let ⟨o, _, _, ho, _⟩ := dd'; ⟨o, ho⟩
  have ot : Oth [a] H (upd H a (.ext (NDφ X.prog X.w a (storedH xs k b r)))) := ⟨fun c o' n e => by rw [upd_ne (fun z => n (by rw [z]; simp))]; exact e, fun c ys e => by rw [upd_ne (ne_of e ea (fun z => nomatch z))]; exact e⟩
  exact q _ _ (d_write (I.tok _) (by rw [ea]; exact True.intro) hs' he (ND_ok dd')) (nx _ ot ⟨_, upd_same, by have := length_putK kvs k z; omega, hs, (rel.put k hk rz).oth ot⟩)
/-- what one writes of such a comprehension: its iterable, its target, key and value; the new dict grows -/
def tDcN (P : Program) (w : World) (wi : TI) (g : TG) (tk tv : TE) (vs : List Nat) : TE := fun σ H Q => wi σ H fun J H1 => ∀ D H2, H1 D = none → Oth [] H1 H2 → DN P w H2 D [] → ∃ W : Nat → Nat → Hp → Prop, (∃ m, W 0 m H2) ∧ ∀ i m H3, W i m H3 →
  (J.stop i H3 ∧ Q (.ref D) H3) ∨ (J.go i H3 ∧ ∃ Nx : Hp → Prop, (∀ H4, Nx H4 → ∃ m', m' < m ∧ W (i + 1) m' H4) ∧ ∀ x H4, J.yld i H3 x H4 → g x (wipe σ vs) H4 fun σ5 H5 => wipe σ5 vs = wipe σ vs ∧ tk σ5 H5 fun y H6 => tv σ5 H6 fun z H7 => rSetN P w (.ref D) y z H7 Nx)
theorem dcN_core {pins : List (Addr × Obj)} {s : Shared} {σ : L2.St} {H : Hp} {Q : VK} {kx vx tg iter : Expr} {scope : Scope} {own : List (Str × Nat)} {pos pos' : Pos} {wi : TI} {g : TG} {tk tv : TE} {use : Option (Value → Sem Unit)} {Qf : Value → Shared → Prop}
    (hu : X.A.units + 20 < cLine) (calm : X.calm = true) (nd : X.N.Nodup) (I : Inv X pins σ H s) (pi : PI X tg iter wi) (ok : BlkOk X.N X.env.scope scope own)
    (hg : ∀ s H C cl fp, PG (X.blk s H scope (compEnvC scope cl C X.env) fp) tg g) (hk : ∀ s H C cl fp, PE (X.blk s H scope (compEnvC scope cl C X.env) fp) kx tk)
    (hv : ∀ s H C cl fp, PE (X.blk s H scope (compEnvC scope cl C X.env) fp) vx tv) (fold : ∀ x, foldedSetIterable iter X.env x = pure x)
    (h : tDcN X.prog X.w wi g tk tv (own.map (·.2)) σ H Q)
    (post : ∀ D C s' m H', Inv X pins σ H' s' → Q (.ref D) H' → s'.heap.Ns C m → FpOk X pins H' C → compPost (model X.prog X.w) X.A X.xe use Qf (.ref D) C (.ok .next) s') :
    wpAny (model X.prog X.w) X.A (comprehension (.DictComp kx vx [⟨tg, iter, [], 0⟩] scope pos) scope X.env pos' newDict false (eval iter X.env) use) Qf X.xe s := by
  have fr : ∀ y ∈ scope.names, y.2 = .free → ∃ c, X.env.cells.lookup y.1 = some c := fun y hy e => (ok.free y hy e).elim (fun k => I.ok.has _ (.inl k)) fun k => I.ok.has _ (.inr k)
  refine wpAny_comprehension_free rfl fold (closure_ok fr) ok.kind (fun y hy e => (ok.uniq y hy).trans (congrArg some e)) (thn (pi.run pins s σ H _ I h) fun xv sA hA => thn hA fun itv sB hB => ?_)
  obtain ⟨it, fp, tn, J, HB, rfl, IB, T, stB, fB, q⟩ := hB
  refine wpAny_newObj_type (newEnv_comp ?_)
  obtain ⟨D, eD⟩ : ∃ D, D = sB.heap.objs.size := ⟨_, rfl⟩
  rw [← eD]
  have noD : HB D = none := IB.hok.fresh (Nat.le_of_eq eD.symm)
  obtain ⟨sC, eC⟩ : ∃ sC : Shared, sC = { sB with heap := sB.heap.push { cls := .type "dict", data := .dict #[] } } := ⟨_, rfl⟩
  obtain ⟨HC, eH⟩ : ∃ HC : Hp, HC = upd HB D (.ext (NDφ X.prog X.w D [])) := ⟨_, rfl⟩
  have big : (D == sysModules) = false := beq_eq_false_iff_ne.mpr (by rw [eD]; exact Ne.symm (Nat.ne_of_lt IB.big))
  have IC : Inv X pins σ HC sC := by
    rw [eC, eH]
    exact IB.laid (t' := sB.toks) (fun _ _ e => Heap.get?_push_of_some _ e) (Nat.le_of_eq eD.symm) (by rw [eD]; exact ND_ok (Heap.DictOfH.new sB.heap))
  have dn0 : DN X.prog X.w HC D [] := by rw [eH]; exact ⟨[], upd_same, Nat.zero_le _, big, .nil⟩
  have oC : Oth [] HB HC := by rw [eH]; exact Oth.new noD
  obtain ⟨W, ⟨m0, w0⟩, turn⟩ := q D HC noD oC dn0
  have keptC : ∀ b o, sB.heap.get? b = some o → sC.heap.get? b = some o := fun b o e => by rw [eC]; exact Heap.get?_push_of_some _ e
  have fC : ∀ b ∈ fp, FpOk X pins HC b ∧ b < sC.heap.objs.size := fun b hb => by
    obtain ⟨o, e, _⟩ := T.obj _ _ stB b hb
    have lt := Heap.lt_size e
    exact ⟨⟨by rw [eH, upd_ne (by rw [eD]; exact Nat.ne_of_lt lt)]; exact (fB b hb).1, (fB b hb).2⟩, Heap.lt_size (keptC b o e)⟩
  have ID := block_start IC ok nd fC
  have gG := hg sC HC sC.heap.objs.size (cellsFrom (sC.heap.objs.size + 1) scope.names (cloFrom X.env.cells scope.names [])) fp
  have gK := hk sC HC sC.heap.objs.size (cellsFrom (sC.heap.objs.size + 1) scope.names (cloFrom X.env.cells scope.names [])) fp
  have gV := hv sC HC sC.heap.objs.size (cellsFrom (sC.heap.objs.size + 1) scope.names (cloFrom X.env.cells scope.names [])) fp
  have none0 : ∀ b ∈ fp, HC b = none := fun b hb => (fC b hb).1.1
  rw [← eC]
  show codeAny _ _ (.compStart (.DictComp kx vx [⟨tg, iter, [], 0⟩] scope pos) 0 (.ref it) (.ref D) (compEnvC scope (cellsFrom (sC.heap.objs.size + 1) scope.names (cloFrom X.env.cells scope.names [])) sC.heap.objs.size X.env)) (compPost (model X.prog X.w) X.A X.xe use Qf (.ref D) sC.heap.objs.size) { sC with heap := pushCells (sC.heap.push { cls := .type "dict", data := .dict #[] }) scope.names }
  obtain ⟨ce, ece⟩ : ∃ ce, ce = compEnvC scope (cellsFrom (sC.heap.objs.size + 1) scope.names (cloFrom X.env.cells scope.names [])) sC.heap.objs.size X.env := ⟨_, rfl⟩
  rw [← ece] at ID gG gK gV ⊢
  have loc : ce.locals = sC.heap.objs.size := by rw [ece]; rfl
  obtain ⟨sD, eSD⟩ : ∃ sD : Shared, sD = { sC with heap := pushCells (sC.heap.push { cls := .type "dict", data := .dict #[] }) scope.names } := ⟨_, rfl⟩
  rw [← eSD] at ID ⊢
  have stD : tn 0 sD.heap := T.keep _ _ _ stB fun b _ o e => by rw [eSD]; exact pushCells_keeps _ _ _ _ (Heap.get?_push_of_some _ (keptC b o e))
  have foot : ∀ {τ : L2.St} {G : Hp} {u : Shared}, Inv (X.blk sC HC scope ce fp) [] τ G u → (∀ b ∈ fp, G b = none) → ∀ b ∈ fp, FpOk (X.blk sC HC scope ce fp) [] G b := fun J nn b hb =>
    ⟨nn b hb, (J.ok.exf b hb).1, J.ok.exfs b hb, .inl hb, fun x c e => (J.ok.exf b hb).2 x c e, fun p hp => by cases (show p ∈ ([] : List (Addr × Obj)) from hp)⟩
  have go : codeAny (model X.prog X.w) X.A (.compLoop (.DictComp kx vx [⟨tg, iter, [], 0⟩] scope pos) 0 (.ref it) (.ref D) ce) (compPost (model X.prog X.w) X.A X.xe use Qf (.ref D) sC.heap.objs.size) sD := by
    refine compLoop_anyD (fun n u => ∃ i G, Inv (X.blk sC HC scope ce fp) [] (wipe σ (own.map (·.2))) G u ∧ tn i u.heap ∧ (∀ b ∈ fp, G b = none) ∧ W i n G) (fun n u hI => ?_) m0 ⟨0, HC, ID, stD, none0, w0⟩
    obtain ⟨i, G, IG, stG, nG, wG⟩ := hI
    rcases turn i n G wG with ⟨stop, qq⟩ | ⟨go, Nx, hNx, step⟩
    · refine thnF (T.done (X.blk sC HC scope ce fp) rfl rfl rfl calm i [] u _ G (fun _ _ => False) IG (foot IG nG) stG stop) fun r u2 ⟨hr, I2⟩ => ?_
      subst hr
      have back : Inv X pins σ G u2 := IC.call' (ch := fp) I2.os I2.base I2.hok I2.bare fun b hb => let z := (fC b hb).1.2; ⟨z.2.2.1, z.1, z.2.2.2.1, z.2.2.2.2⟩
      have nl : G ce.locals = none := I2.free
      obtain ⟨m, hn, _⟩ := I2.loc
      have hn : u2.heap.Ns ce.locals m := hn
      rw [loc] at nl hn
      exact post D sC.heap.objs.size u2 m G back qq hn (IC.fpOk (Nat.le_refl _) nl)
    · refine thnF (T.item (X.blk sC HC scope ce fp) rfl rfl rfl calm i [] u _ G (fun _ _ => False) IG (foot IG nG) stG go) fun r u2 ⟨v, hr, h2⟩ => ?_
      subst hr
      refine thnF h2 fun _ u3 ⟨x, G3, I3, r3, y3, st3, n3⟩ => ?_
      refine thnF (gG.run _ u3 _ G3 x v _ (I3.pinned (foot I3 n3) (T.obj _ _ st3)) r3 (step x G3 y3)) fun _ u4 ⟨σ4, G4, I4, w4, q4⟩ => ?_
      refine wpAny_pure ?_
      show wpAny _ _ _ _ _ _
      refine thnF (gK.run _ u4 σ4 G4 _ I4 q4) fun ky u5 ⟨y5, G5, I5, r5, q5⟩ => ?_
      refine thnF (gV.run _ u5 σ4 G5 _ I5 q5) fun vy u6 ⟨y6, G6, I6, r6, q6⟩ => ?_
      refine dictSetN (X := X.blk sC HC scope ce fp) hu I6 r5 r6 q6 fun u7 G7 I7 nx => ?_
      obtain ⟨m', lt, w7⟩ := hNx G7 nx
      have pinned : ∀ b ∈ fp, ∀ o, u3.heap.get? b = some o → u7.heap.get? b = some o ∧ G7 b = none := fun b hb o e =>
        let z := I7.pin (b, o) (List.mem_append_right _ (List.mem_append_right _ (mem_pinsAt hb e)))
        ⟨z.1, z.2.1⟩
      refine ⟨m', lt, i + 1, G7, (I7.unpinned (pins := [])).weak (by rw [← w4, wipe_length]) (fun j v' e => by rw [← w4] at e; exact (wipe_some e).1), T.keep _ _ _ st3 fun b hb o e => (pinned b hb o e).1, fun b hb => ?_, w7⟩
      obtain ⟨o, e, _⟩ := T.obj _ _ st3 b hb
      exact (pinned b hb o e).2
  exact codeAny_compStart_dict go (T.self X.A 0 _ _ _ stD go)
theorem pe_dcN {kx vx tg iter : Expr} {scope : Scope} {own : List (Str × Nat)} {pos : Pos} {wi : TI} {g : TG} {tk tv : TE} (hu : X.A.units + 20 < cLine) (calm : X.calm = true) (nd : X.N.Nodup) (pi : PI X tg iter wi) (ok : BlkOk X.N X.env.scope scope own)
    (hg : ∀ s H C cl fp, PG (X.blk s H scope (compEnvC scope cl C X.env) fp) tg g) (hk : ∀ s H C cl fp, PE (X.blk s H scope (compEnvC scope cl C X.env) fp) kx tk)
    (hv : ∀ s H C cl fp, PE (X.blk s H scope (compEnvC scope cl C X.env) fp) vx tv) (fold : ∀ x, foldedSetIterable iter X.env x = pure x := by intro _; rfl) :
    PE X (.DictComp kx vx [⟨tg, iter, [], 0⟩] scope pos) (tDcN X.prog X.w wi g tk tv (own.map (·.2))) := ⟨fun pins s σ H Q I h => by
  rw [arm_eval_DictComp]
  exact dcN_core hu calm nd I pi ok hg hk hv fold h fun D C s' m H' I' q ns fo => ⟨m, ns, fun h'' sb => ⟨.ref D, H', I'.turned (t' := s'.toks) (fun b o hb e => (sb.2 b hb).trans e) fo.1 fo.2.1 fo.2.2.2.1 fo.2.2.2.2.1 fo.2.2.2.2.2, rfl, q⟩⟩⟩
theorem ps_setDcN {i : Nat} {y : Str} {py : Pos} {kx vx tg iter : Expr} {scope : Scope} {own : List (Str × Nat)} {pos spos : Pos} {wi : TI} {g : TG} {tk tv : TE} (hu : X.A.units + 20 < cLine) (calm : X.calm = true) (nd : X.N.Nodup) (hy : X.N[i]? = some y) (yl : X.env.scope.names.lookup y = some .local)
    (sw : swapsWith (.DictComp kx vx [⟨tg, iter, [], 0⟩] scope pos) (some (.Name y py)) spos.line X.env = pure true) (pi : PI X tg iter wi) (ok : BlkOk X.N X.env.scope scope own)
    (hg : ∀ s H C cl fp, PG (X.blk s H scope (compEnvC scope cl C X.env) fp) tg g) (hk : ∀ s H C cl fp, PE (X.blk s H scope (compEnvC scope cl C X.env) fp) kx tk)
    (hv : ∀ s H C cl fp, PE (X.blk s H scope (compEnvC scope cl C X.env) fp) vx tv) (fold : ∀ x, foldedSetIterable iter X.env x = pure x := by intro _; rfl) :
    PS X (.Assign [.Name y py] (.DictComp kx vx [⟨tg, iter, [], 0⟩] scope pos) spos) (tAsg (tDcN X.prog X.w wi g tk tv (own.map (·.2))) (gName i)) := ⟨fun pins s σ H D I h => by
  rw [exec_Assign_Name_used _ _ _ _ sw]
  refine wpAny_bind (wpAny_standAt (wpAny_bind ?_))
  show wpAny _ X.A (do let _ ← comprehension (.DictComp kx vx [⟨tg, iter, [], 0⟩] scope pos) scope X.env (firstIterPos [⟨tg, iter, [], 0⟩] pos) newDict false (eval iter X.env) (some (assign (.Name y py) X.env))) _ _ s
  have h : tDcN X.prog X.w wi g tk tv (own.map (·.2)) σ H (fun x H1 => gName i x σ H1 D.nx) := h
  refine wpAny_bind (thn (dcN_core (Qf := fun _ u => SP X pins D .next u) hu calm nd I pi ok hg hk hv fold h fun L C u m H' I' q ns fo => ?_) fun _ u hq => wpAny_pure (wpAny_pure hq))
  show wpAny _ _ (assign (.Name y py) X.env (.ref L)) _ _ _
  refine wpAny_assign_Name (store_ok2 (v := V.ref L) I' nd hy (.inl yl) rfl (fun u2 I2 ⟨a, sb, ha⟩ => ?_) (.inr yl))
  have apart : C ≠ a := ha.elim (fun z => by rw [z]; exact fo.2.1) fun z e => fo.2.2.2.2.1 y a z e.symm
  exact ⟨m, ns.sameBut sb apart, fun h3 sb3 => ⟨_, H', I2.turned (t' := u2.toks) (fun b o hb e => (sb3.2 b hb).trans e) fo.1 fo.2.1 fo.2.2.2.1 fo.2.2.2.2.1 fo.2.2.2.2.2, q⟩⟩⟩
theorem swD_true {kx vx : Expr} {gs : List Comprehension} {scope : Scope} {pos py : Pos} {y : Str} {l : Nat} {env : Env} (fn : env.scope.kind = .function) (loc : env.scope.names.lookup y = some .local) (hl : (py.line == pos.line) = true)
    (own : (scope.names.any fun (n, k) => n == y && (k == .local || k == .cell)) = false) : swapsWith (.DictComp kx vx gs scope pos) (some (.Name y py)) l env = pure true := by
  have ky : env.kindOf y = some .local := loc
  have hb : env.blockKind = .function := by unfold Env.blockKind; rw [fn]; rfl
  unfold swapsWith
  simp only [hb, ky, own, Expr.pos, hl]
  rfl
/-- over a tuple of pairs that stays -/
theorem dcN_tup {P : Program} {w : World} {K : PySem.W.Frag} {a : Addr} {xs : List V} {g : TG} {tk tv : TE} {vs : List Nat} {σ : L2.St} {H2 : Hp} {D : Addr} {Qd : Hp → Prop} (Pv : Nat → Hp → Prop) (h0 : Pv 0 H2) (stay : ∀ i H, i ≤ xs.length → Pv i H → SqT K H a xs)
    (one : ∀ i x H, xs[i]? = some x → Pv i H → g x (wipe σ vs) H fun σ5 H5 => wipe σ5 vs = wipe σ vs ∧ tk σ5 H5 fun y H6 => tv σ5 H6 fun z H7 => rSetN P w (.ref D) y z H7 (Pv (i + 1))) (end' : ∀ H, Pv xs.length H → Qd H) :
    ∃ W : Nat → Nat → Hp → Prop, (∃ m, W 0 m H2) ∧ ∀ i m H3, W i m H3 → ((Itt K a).stop i H3 ∧ Qd H3) ∨ ((Itt K a).go i H3 ∧ ∃ Nx : Hp → Prop, (∀ H4, Nx H4 → ∃ m', m' < m ∧ W (i + 1) m' H4) ∧ ∀ x H4, (Itt K a).yld i H3 x H4 → g x (wipe σ vs) H4 fun σ5 H5 => wipe σ5 vs = wipe σ vs ∧ tk σ5 H5 fun y H6 => tv σ5 H6 fun z H7 => rSetN P w (.ref D) y z H7 Nx) := by
  refine ⟨fun i m H => m + i = xs.length ∧ Pv i H, ⟨xs.length, rfl, h0⟩, fun i m H3 hW => ?_⟩
  obtain ⟨em, p⟩ := hW
  have sq := stay i H3 (by omega) p
  rcases Nat.lt_or_ge i xs.length with lt | ge
  · refine .inr ⟨⟨xs, xs[i], sq, List.getElem?_eq_getElem lt⟩, Pv (i + 1), fun H4 p' => ⟨m - 1, by omega, by omega, p'⟩, fun x H4 y => ?_⟩
    obtain ⟨e, y⟩ := y
    cases e
    exact one i x H3 (y xs sq) p
  · obtain rfl : i = xs.length := by omega
    exact .inl ⟨⟨xs, sq, Nat.le_refl _⟩, end' H3 p⟩
/-! ### d.get(key, other) -/
def tGetN (P : Program) (w : World) (td ty tx : TE) : TE := fun σ H Q => td σ H fun x H1 => ∃ a, x = .ref a ∧ (∃ kvs, DN P w H1 a kvs) ∧ ty σ H1 fun y H2 => tx σ H2 fun z H3 => ∃ b k kvs, y = .ref b ∧ NKey H3 k b ∧ DN P w H3 a kvs ∧ Q ((valV kvs k).getD z) H3
theorem pe_getN {o e f : Expr} {apos cpos : Pos} {td ty tx : TE} (hu : X.A.units + 20 < cLine) (ho : PE X o td) (he : PE X e ty) (hf : PE X f tx) (m : M2 X o "get" apos e f cpos) : PE X (.Call (.Attribute o "get" apos) [e, f] [] cpos) (tGetN X.prog X.w td ty tx) := ⟨fun pins s σ H Q I h => by
  refine wpAny_Call_method m.base m.few m.line PySem.F.plainAttrs_dict PySem.F.slot_dict_get PySem.F.type_dict_get (thn (ho.run pins s σ H _ I h) fun u s1 ⟨x, H1, I1, rx, a, ex, ⟨kvs1, d1⟩, q1⟩ => ?_)
  subst ex
  obtain rfl : u = Value.ref a := rx
  obtain ⟨xs1, _, _, _, dd1⟩ := d1.open I1.hok
  refine ⟨(Heap.DictKeyed.typeIs (s := s1) (knd := nestedKind X.prog X.w) (kvs := pairsH xs1) ⟨xs1, dd1, rfl⟩), ?t2, ?_⟩
  case t2 => intro c ec; cases ec; obtain ⟨o1, es, ep, h1, h2, _⟩ := dd1; exact ⟨o1, h1, h2.2.1⟩
  rw [m.trees]
  refine Calls.callWith_builtin rfl (Calls.evalArgs_plain (Calls.spliced_cons (thn (he.run pins s1 σ H1 _ I1 q1) fun iv s2 ⟨y, H2, I2, ry, q2⟩ =>
    Calls.spliced_cons (thn (hf.run pins s2 σ H2 _ I2 q2) fun fv s3 ⟨z, H3, I3, rz, b, k, kvs, ey, hk, hd, q3⟩ => Calls.spliced_nil ?_))))
  subst ey
  cases (show iv = Value.ref b from ry)
  obtain ⟨xs, zl, hs, rel, dd⟩ := hd.open I3.hok
  refine PySem.getOr_keyed (knd := nestedKind X.prog X.w) (by show X.A.units + 1 + 8 < cLine; omega) (hk.ok I3.hok) hs ⟨xs, dd, rfl⟩ ?_
  refine ⟨_, H3, I3.tok _, ?_, q3⟩
  rw [valueAt_pairsH]
  have r := rel.val k
  revert r
  cases valV kvs k <;> cases (atKey xs k).map (·.2) <;> intro r <;> first | exact rz | exact r.elim | exact r⟩
end
end Pw
namespace Pw
open PySem PySem.Spec PyProof.Rows L2
section
variable {X : Cx}
def tDcNI (P : Program) (w : World) (wi : TI) (g : TG) (tt : TT) (tk tv : TE) (vs : List Nat) : TE := fun σ H Q => wi σ H fun J H1 => ∀ D H2, H1 D = none → Oth [] H1 H2 → DN P w H2 D [] → ∃ W : Nat → Nat → Hp → Prop, (∃ m, W 0 m H2) ∧ ∀ i m H3, W i m H3 →
  (J.stop i H3 ∧ Q (.ref D) H3) ∨ (J.go i H3 ∧ ∃ Nx : Hp → Prop, (∀ H4, Nx H4 → ∃ m', m' < m ∧ W (i + 1) m' H4) ∧ ∀ x H4, J.yld i H3 x H4 → g x (wipe σ vs) H4 fun σ5 H5 => wipe σ5 vs = wipe σ vs ∧ tt σ5 H5 fun b H6 => if b = true then tk σ5 H6 fun y H7 => tv σ5 H7 fun z H8 => rSetN P w (.ref D) y z H8 Nx else Nx H6)
theorem dcNI_core {pins : List (Addr × Obj)} {s : Shared} {σ : L2.St} {H : Hp} {Q : VK} {kx vx tg iter : Expr} {ifs : List Expr} {scope : Scope} {own : List (Str × Nat)} {pos pos' : Pos} {wi : TI} {g : TG} {tt : TT} {tk tv : TE} {use : Option (Value → Sem Unit)} {Qf : Value → Shared → Prop}
    (hu : X.A.units + 20 < cLine) (calm : X.calm = true) (nd : X.N.Nodup) (I : Inv X pins σ H s) (pi : PI X tg iter wi) (ok : BlkOk X.N X.env.scope scope own)
    (hg : ∀ s H C cl fp, PG (X.blk s H scope (compEnvC scope cl C X.env) fp) tg g) (hq : ∀ s H C cl fp, PTs (X.blk s H scope (compEnvC scope cl C X.env) fp) ifs tt) (hk : ∀ s H C cl fp, PE (X.blk s H scope (compEnvC scope cl C X.env) fp) kx tk)
    (hv : ∀ s H C cl fp, PE (X.blk s H scope (compEnvC scope cl C X.env) fp) vx tv) (fold : ∀ x, foldedSetIterable iter X.env x = pure x)
    (h : tDcNI X.prog X.w wi g tt tk tv (own.map (·.2)) σ H Q)
    (post : ∀ D C s' m H', Inv X pins σ H' s' → Q (.ref D) H' → s'.heap.Ns C m → FpOk X pins H' C → compPost (model X.prog X.w) X.A X.xe use Qf (.ref D) C (.ok .next) s') :
    wpAny (model X.prog X.w) X.A (comprehension (.DictComp kx vx [⟨tg, iter, ifs, 0⟩] scope pos) scope X.env pos' newDict false (eval iter X.env) use) Qf X.xe s := by
  have fr : ∀ y ∈ scope.names, y.2 = .free → ∃ c, X.env.cells.lookup y.1 = some c := fun y hy e => (ok.free y hy e).elim (fun k => I.ok.has _ (.inl k)) fun k => I.ok.has _ (.inr k)
  refine wpAny_comprehension_free rfl fold (closure_ok fr) ok.kind (fun y hy e => (ok.uniq y hy).trans (congrArg some e)) (thn (pi.run pins s σ H _ I h) fun xv sA hA => thn hA fun itv sB hB => ?_)
  obtain ⟨it, fp, tn, J, HB, rfl, IB, T, stB, fB, q⟩ := hB
  refine wpAny_newObj_type (newEnv_comp ?_)
  obtain ⟨D, eD⟩ : ∃ D, D = sB.heap.objs.size := ⟨_, rfl⟩
  rw [← eD]
  have noD : HB D = none := IB.hok.fresh (Nat.le_of_eq eD.symm)
  obtain ⟨sC, eC⟩ : ∃ sC : Shared, sC = { sB with heap := sB.heap.push { cls := .type "dict", data := .dict #[] } } := ⟨_, rfl⟩
  obtain ⟨HC, eH⟩ : ∃ HC : Hp, HC = upd HB D (.ext (NDφ X.prog X.w D [])) := ⟨_, rfl⟩
  have big : (D == sysModules) = false := beq_eq_false_iff_ne.mpr (by rw [eD]; exact Ne.symm (Nat.ne_of_lt IB.big))
  have IC : Inv X pins σ HC sC := by
    rw [eC, eH]
    exact IB.laid (t' := sB.toks) (fun _ _ e => Heap.get?_push_of_some _ e) (Nat.le_of_eq eD.symm) (by rw [eD]; exact ND_ok (Heap.DictOfH.new sB.heap))
  have dn0 : DN X.prog X.w HC D [] := by rw [eH]; exact ⟨[], upd_same, Nat.zero_le _, big, .nil⟩
  have oC : Oth [] HB HC := by rw [eH]; exact Oth.new noD
  obtain ⟨W, ⟨m0, w0⟩, turn⟩ := q D HC noD oC dn0
  have keptC : ∀ b o, sB.heap.get? b = some o → sC.heap.get? b = some o := fun b o e => by rw [eC]; exact Heap.get?_push_of_some _ e
  have fC : ∀ b ∈ fp, FpOk X pins HC b ∧ b < sC.heap.objs.size := fun b hb => by
    obtain ⟨o, e, _⟩ := T.obj _ _ stB b hb
    have lt := Heap.lt_size e
    exact ⟨⟨by rw [eH, upd_ne (by rw [eD]; exact Nat.ne_of_lt lt)]; exact (fB b hb).1, (fB b hb).2⟩, Heap.lt_size (keptC b o e)⟩
  have ID := block_start IC ok nd fC
  have gG := hg sC HC sC.heap.objs.size (cellsFrom (sC.heap.objs.size + 1) scope.names (cloFrom X.env.cells scope.names [])) fp
  have gQ := hq sC HC sC.heap.objs.size (cellsFrom (sC.heap.objs.size + 1) scope.names (cloFrom X.env.cells scope.names [])) fp
  have gK := hk sC HC sC.heap.objs.size (cellsFrom (sC.heap.objs.size + 1) scope.names (cloFrom X.env.cells scope.names [])) fp
  have gV := hv sC HC sC.heap.objs.size (cellsFrom (sC.heap.objs.size + 1) scope.names (cloFrom X.env.cells scope.names [])) fp
  have none0 : ∀ b ∈ fp, HC b = none := fun b hb => (fC b hb).1.1
  rw [← eC]
  show codeAny _ _ (.compStart (.DictComp kx vx [⟨tg, iter, ifs, 0⟩] scope pos) 0 (.ref it) (.ref D) (compEnvC scope (cellsFrom (sC.heap.objs.size + 1) scope.names (cloFrom X.env.cells scope.names [])) sC.heap.objs.size X.env)) (compPost (model X.prog X.w) X.A X.xe use Qf (.ref D) sC.heap.objs.size) { sC with heap := pushCells (sC.heap.push { cls := .type "dict", data := .dict #[] }) scope.names }
  obtain ⟨ce, ece⟩ : ∃ ce, ce = compEnvC scope (cellsFrom (sC.heap.objs.size + 1) scope.names (cloFrom X.env.cells scope.names [])) sC.heap.objs.size X.env := ⟨_, rfl⟩
  rw [← ece] at ID gG gQ gK gV ⊢
  have loc : ce.locals = sC.heap.objs.size := by rw [ece]; rfl
  obtain ⟨sD, eSD⟩ : ∃ sD : Shared, sD = { sC with heap := pushCells (sC.heap.push { cls := .type "dict", data := .dict #[] }) scope.names } := ⟨_, rfl⟩
  rw [← eSD] at ID ⊢
  have stD : tn 0 sD.heap := T.keep _ _ _ stB fun b _ o e => by rw [eSD]; exact pushCells_keeps _ _ _ _ (Heap.get?_push_of_some _ (keptC b o e))
  have foot : ∀ {τ : L2.St} {G : Hp} {u : Shared}, Inv (X.blk sC HC scope ce fp) [] τ G u → (∀ b ∈ fp, G b = none) → ∀ b ∈ fp, FpOk (X.blk sC HC scope ce fp) [] G b := fun J nn b hb =>
    ⟨nn b hb, (J.ok.exf b hb).1, J.ok.exfs b hb, .inl hb, fun x c e => (J.ok.exf b hb).2 x c e, fun p hp => by cases (show p ∈ ([] : List (Addr × Obj)) from hp)⟩
  have go : codeAny (model X.prog X.w) X.A (.compLoop (.DictComp kx vx [⟨tg, iter, ifs, 0⟩] scope pos) 0 (.ref it) (.ref D) ce) (compPost (model X.prog X.w) X.A X.xe use Qf (.ref D) sC.heap.objs.size) sD := by
    refine compLoop_anyD (fun n u => ∃ i G, Inv (X.blk sC HC scope ce fp) [] (wipe σ (own.map (·.2))) G u ∧ tn i u.heap ∧ (∀ b ∈ fp, G b = none) ∧ W i n G) (fun n u hI => ?_) m0 ⟨0, HC, ID, stD, none0, w0⟩
    obtain ⟨i, G, IG, stG, nG, wG⟩ := hI
    rcases turn i n G wG with ⟨stop, qq⟩ | ⟨go, Nx, hNx, step⟩
    · refine thnF (T.done (X.blk sC HC scope ce fp) rfl rfl rfl calm i [] u _ G (fun _ _ => False) IG (foot IG nG) stG stop) fun r u2 ⟨hr, I2⟩ => ?_
      subst hr
      have back : Inv X pins σ G u2 := IC.call' (ch := fp) I2.os I2.base I2.hok I2.bare fun b hb => let z := (fC b hb).1.2; ⟨z.2.2.1, z.1, z.2.2.2.1, z.2.2.2.2⟩
      have nl : G ce.locals = none := I2.free
      obtain ⟨m, hn, _⟩ := I2.loc
      have hn : u2.heap.Ns ce.locals m := hn
      rw [loc] at nl hn
      exact post D sC.heap.objs.size u2 m G back qq hn (IC.fpOk (Nat.le_refl _) nl)
    · refine thnF (T.item (X.blk sC HC scope ce fp) rfl rfl rfl calm i [] u _ G (fun _ _ => False) IG (foot IG nG) stG go) fun r u2 ⟨v, hr, h2⟩ => ?_
      subst hr
      refine thnF h2 fun _ u3 ⟨x, G3, I3, r3, y3, st3, n3⟩ => ?_
      refine thnF (gG.run _ u3 _ G3 x v _ (I3.pinned (foot I3 n3) (T.obj _ _ st3)) r3 (step x G3 y3)) fun _ u4 ⟨σ4, G4, I4, w4, q4⟩ => ?_
      refine thnF (gQ.run _ u4 σ4 G4 _ I4 q4) fun bq uq ⟨Gq, Iq, qq⟩ => ?_
      -- how a turn ends
      have fin : ∀ {s' : Shared} {H' : Hp}, Inv (X.blk sC HC scope ce fp) ([] ++ pinsAt fp u3.heap) σ4 H' s' → Nx H' → ∃ m, m < n ∧ ∃ i H', Inv (X.blk sC HC scope ce fp) [] (wipe σ (own.map (·.2))) H' s' ∧ tn i s'.heap ∧ (∀ b ∈ fp, H' b = none) ∧ W i m H' := fun {u7 G7} I7 nx => by
        obtain ⟨m', lt, w7⟩ := hNx G7 nx
        have pinned : ∀ b ∈ fp, ∀ o, u3.heap.get? b = some o → u7.heap.get? b = some o ∧ G7 b = none := fun b hb o e =>
          let z := I7.pin (b, o) (List.mem_append_right _ (List.mem_append_right _ (mem_pinsAt hb e)))
          ⟨z.1, z.2.1⟩
        refine ⟨m', lt, i + 1, G7, (I7.unpinned (pins := [])).weak (by rw [← w4, wipe_length]) (fun j v' e => by rw [← w4] at e; exact (wipe_some e).1), T.keep _ _ _ st3 fun b hb o e => (pinned b hb o e).1, fun b hb => ?_, w7⟩
        obtain ⟨o, e, _⟩ := T.obj _ _ st3 b hb
        exact (pinned b hb o e).2
      cases bq with
      | false =>
        simp only [Bool.false_eq_true, if_false] at qq ⊢
        exact fin Iq qq
      | true =>
        simp only [if_true] at qq ⊢
        refine thnF (gK.run _ uq σ4 Gq _ Iq qq) fun ky u5 ⟨y5, G5, I5, r5, q5⟩ => ?_
        refine thnF (gV.run _ u5 σ4 G5 _ I5 q5) fun vy u6 ⟨y6, G6, I6, r6, q6⟩ => ?_
        exact dictSetN (X := X.blk sC HC scope ce fp) hu I6 r5 r6 q6 fun u7 G7 I7 nx => fin I7 nx
  exact codeAny_compStart_dict go (T.self X.A 0 _ _ _ stD go)
theorem pe_dcNI {kx vx tg iter : Expr} {ifs : List Expr} {scope : Scope} {own : List (Str × Nat)} {pos : Pos} {wi : TI} {g : TG} {tt : TT} {tk tv : TE} (hu : X.A.units + 20 < cLine) (calm : X.calm = true) (nd : X.N.Nodup) (pi : PI X tg iter wi) (ok : BlkOk X.N X.env.scope scope own)
    (hg : ∀ s H C cl fp, PG (X.blk s H scope (compEnvC scope cl C X.env) fp) tg g) (hq : ∀ s H C cl fp, PTs (X.blk s H scope (compEnvC scope cl C X.env) fp) ifs tt) (hk : ∀ s H C cl fp, PE (X.blk s H scope (compEnvC scope cl C X.env) fp) kx tk)
    (hv : ∀ s H C cl fp, PE (X.blk s H scope (compEnvC scope cl C X.env) fp) vx tv) (fold : ∀ x, foldedSetIterable iter X.env x = pure x := by intro _; rfl) :
    PE X (.DictComp kx vx [⟨tg, iter, ifs, 0⟩] scope pos) (tDcNI X.prog X.w wi g tt tk tv (own.map (·.2))) := ⟨fun pins s σ H Q I h => by
  rw [arm_eval_DictComp]
  exact dcNI_core hu calm nd I pi ok hg hq hk hv fold h fun D C s' m H' I' q ns fo => ⟨m, ns, fun h'' sb => ⟨.ref D, H', I'.turned (t' := s'.toks) (fun b o hb e => (sb.2 b hb).trans e) fo.1 fo.2.1 fo.2.2.2.1 fo.2.2.2.2.1 fo.2.2.2.2.2, rfl, q⟩⟩⟩
theorem dcNI_tup {P : Program} {w : World} {K : PySem.W.Frag} {a : Addr} {xs : List V} {g : TG} {tt : TT} {tk tv : TE} {vs : List Nat} {σ : L2.St} {H2 : Hp} {D : Addr} {Qd : Hp → Prop} (Pv : Nat → Hp → Prop) (h0 : Pv 0 H2) (stay : ∀ i H, i ≤ xs.length → Pv i H → SqT K H a xs)
    (one : ∀ i x H, xs[i]? = some x → Pv i H → g x (wipe σ vs) H fun σ5 H5 => wipe σ5 vs = wipe σ vs ∧ tt σ5 H5 fun b H6 => if b = true then tk σ5 H6 fun y H7 => tv σ5 H7 fun z H8 => rSetN P w (.ref D) y z H8 (Pv (i + 1)) else Pv (i + 1) H6) (end' : ∀ H, Pv xs.length H → Qd H) :
    ∃ W : Nat → Nat → Hp → Prop, (∃ m, W 0 m H2) ∧ ∀ i m H3, W i m H3 → ((Itt K a).stop i H3 ∧ Qd H3) ∨ ((Itt K a).go i H3 ∧ ∃ Nx : Hp → Prop, (∀ H4, Nx H4 → ∃ m', m' < m ∧ W (i + 1) m' H4) ∧ ∀ x H4, (Itt K a).yld i H3 x H4 → g x (wipe σ vs) H4 fun σ5 H5 => wipe σ5 vs = wipe σ vs ∧ tt σ5 H5 fun b H6 => if b = true then tk σ5 H6 fun y H7 => tv σ5 H7 fun z H8 => rSetN P w (.ref D) y z H8 Nx else Nx H6) := by
  refine ⟨fun i m H => m + i = xs.length ∧ Pv i H, ⟨xs.length, rfl, h0⟩, fun i m H3 hW => ?_⟩
  obtain ⟨em, p⟩ := hW
  have sq := stay i H3 (by omega) p
  rcases Nat.lt_or_ge i xs.length with lt | ge
  · refine .inr ⟨⟨xs, xs[i], sq, List.getElem?_eq_getElem lt⟩, Pv (i + 1), fun H4 p' => ⟨m - 1, by omega, by omega, p'⟩, fun x H4 y => ?_⟩
    obtain ⟨e, y⟩ := y
    cases e
    exact one i x H3 (y xs sq) p
  · obtain rfl : i = xs.length := by omega
    exact .inl ⟨⟨xs, sq, Nat.le_refl _⟩, end' H3 p⟩
/-- x in d, in a block -/
theorem op_inN2 {P : Program} {w : World} (hP : X.prog = P) (hw : X.w = w) (hu : X.A.units + 20 < cLine) : OpR X (compareOp .In) (rInN P w) := by subst hP hw; exact op_inN hu
def rNotInN (P : Program) (w : World) : R2 := fun x y H Q => ∃ b a k kvs, x = .ref b ∧ y = .ref a ∧ NKey H k b ∧ DN P w H a kvs ∧ Q (.bl (!(valV kvs k).isSome)) H
theorem op_notInN (hu : X.A.units + 20 < cLine) : OpR X (compareOp .NotIn) (rNotInN X.prog X.w) := by
  intro pins s σ H x y v u Q I r1 r2 h
  obtain ⟨b, a, k, kvs, rfl, rfl, hk, hd, q⟩ := h
  cases (show v = Value.ref b from r1)
  cases (show u = Value.ref a from r2)
  obtain ⟨xs, z, hs, rel, dd⟩ := hd.open I.hok
  refine PySem.notIn_keyed (knd := nestedKind X.prog X.w) (by show X.A.units + 1 + 8 < cLine; omega) (hk.ok I.hok) hs ⟨xs, dd, rfl⟩ ?_
  have e := (rel.val k).isSome_eq
  rw [valueAt_pairsH, ← e]
  exact ⟨.bl _, H, I.tok _, rfl, q⟩
/-- d[x] -/
def tDGetN (P : Program) (w : World) (td ty : TE) : TE := fun σ H Q => td σ H fun x H1 => ty σ H1 fun y H2 => rIxN P w x y H2 Q
theorem pe_dN {P : Program} {w : World} {o i : Expr} {pos : Pos} {td ty : TE} (hP : X.prog = P) (hw : X.w = w) (hu : X.A.units + 20 < cLine) (ho : PE X o td) (hi : PE X i ty) (hs : NoSl i) : PE X (.Subscript o i pos) (tDGetN P w td ty) := by
  subst hP hw
  refine ⟨fun pins s σ H Q I h => ?_⟩
  refine subD_of PySem.F.slot_dict_getitem.lookup hs (thn (ho.run pins s σ H _ I h) fun u s1 ⟨x, H1, I1, rx, q1⟩ => thn (hi.run pins s1 σ H1 _ I1 q1) fun iv s2 ⟨y, H2, I2, ry, b, a, k, kvs, z, ey, ex, hk, hd, hv, q2⟩ => ?_)
  subst ex ey
  obtain rfl : u = Value.ref a := rx
  obtain rfl : iv = Value.ref b := ry
  obtain ⟨xs, _, _, _, dd⟩ := hd.open I2.hok
  exact ⟨Heap.DictKeyed.typeIs (s := s2) (knd := nestedKind X.prog X.w) (kvs := pairsH xs) ⟨xs, dd, rfl⟩, n_getItem hu I2 hk hd hv fun w' s3 I3 rw' => ⟨z, H2, I3, rw', q2⟩⟩
end
end Pw
namespace Pw
open PySem PySem.Spec PyProof.Rows L2
abbrev noSet (w : World) : Obj := { cls := .type "set", dict := none, data := .set #[] 0 (.fresh 0 0 (!w.params.followText "set-order")) }
section
variable {P : Program} {w : World} {A : Around} {E : Value → Shared → Prop} {s : Shared}
set_option maxHeartbeats 3200000 in
theorem set_of_list {l : Addr} {items : Array Value} (ns : List Int) {Q : Value → Shared → Prop} (calm : A.handled = none) (isl : s.heap.IsList l items) (areI : IntsAre items.toList ns) (small : ns.length + 1 < scanBound)
    (h : ∀ (h' : Heap) (tk c : Nat), SetR w h' s.heap.objs.size (fun j => decide (j ∈ ns)) c → (∀ b o, s.heap.get? b = some o → h'.get? b = some o) → Q (.ref s.heap.objs.size) { s with heap := h', toks := tk }) :
    wpAny (model P w) A (call (.type "set") [.ref l]) Q E s := by
  have len : items.size = ns.length := by rw [← Array.length_toList]; exact IntsAre.length areI
  obtain ⟨c0, c1, c2⟩ := F.called_set.mro
  have c3 := F.called_set.made
  have c4 := F.called_set.sub
  refine wpAny_call (codeAny_of_tree (show wpAny _ _ (callAny (.type "set") _) _ _ _ from wpAny_pure ⟨Code.quiet_builtin _ (by decide +kernel), codeAny_builtin F.entry_type_call ?_⟩))
  rw [Around.under_plain (weight_type_call_type "set" [.ref l] []) rfl]
  have c5 := F.called_set.notType
  have c6 := F.called_set.canCreate
  have c7 := F.typeCall_set_1 (.ref l)
  repeat (any_goals (first | assumption | wp_step))
  refine codeAny_mono (code_set_led1 (.ref l) (E := E) (Q₁ := fun x u => x = .ref s.heap.objs.size ∧ u = { s with heap := s.heap.push (noSet w) }) ⟨rfl, rfl⟩) fun r u hr => ?_
  rcases r with e | fl
  case error => exact hr
  case ok =>
    cases fl with
    | ret x =>
      obtain ⟨rfl, rfl⟩ := hr
      have here : (s.heap.push (noSet w)).get? s.heap.objs.size = some (noSet w) := Heap.get?_push_size _ rfl
      have typ : Shared.TypeIs { s with heap := s.heap.push (noSet w) } (.ref s.heap.objs.size) "set" := ⟨_, here, rfl⟩
      have i0 := F.called_set.init.lookup
      have i1 := F.called_set.init.bind (.ref s.heap.objs.size)
      repeat (any_goals (first | assumption | wp_step))
      refine codeAny_mono (codeAny_call_builtin (R := wants (fun x u => x = .none ∧ ∃ h' tk c, u = { s with heap := h', toks := tk } ∧ SetR w h' s.heap.objs.size (fun j => decide (j ∈ ns)) c ∧ (∀ b o, s.heap.get? b = some o → h'.get? b = some o)) E)
        F.called_set.init.plain F.entry_set_init (check_set_init_1 typ ?_)) fun r2 u2 hr2 => ?_
      · obtain ⟨⟨k1, k2, k3, k4⟩, get, e1, m, e2⟩ := isl
        simp only at e1 e2
        subst e1 e2
        have lt : l < s.heap.objs.size := Heap.lt_size get
        have isl2 : (s.heap.push (noSet w)).IsList l items := ⟨_, Heap.get?_push_of_some _ get, rfl, m, rfl⟩
        have get2 : (s.heap.push (noSet w)).get? l = some { cls := .type "list", dict := k2, data := .seq items m, slots := k4 } := Heap.get?_push_of_some _ get
        have f0 := F.sub_list_set
        have f1 := F.sub_list_frozenset
        have f2 : (Value.type "list" == Value.type "dict") = false := by decide
        unfold Builtin.«set.__init__» noKeywords Builtin.Frozenset.updateFrom
        generalize ePI : pyIter = PI
        wp_walk
        subst ePI
        refine wpAny_pyIter_list isl2 (wpAny_bind (wpAny_runValue ?_))
        have sz : (s.heap.push (noSet w)).objs.size = s.heap.objs.size + 1 := Heap.size_push ..
        have a1 : l ≠ (s.heap.push (noSet w)).objs.size := by rw [sz]; exact Nat.ne_of_lt (Nat.lt_succ_of_lt lt)
        have a2 : s.heap.objs.size ∉ [(s.heap.push (noSet w)).objs.size, l] := by
          rw [sz]; intro z
          rcases List.mem_cons.mp z with z | z
          · exact absurd z (Nat.ne_of_lt (Nat.lt_succ_self _))
          · exact absurd (List.mem_singleton.mp z) (Nat.ne_of_gt lt)
        refine set_update_ints ((Walks.list (A := A.in1.in1.in1) (by simp [calm]) _ l a1 items).toS) s.heap.objs.size a2 ns len small (fun i v hv => ?_) items.size 0 _ (by omega) (Nat.zero_le _) ?at0
          ?st fun s' c' mv _ R => ?_
        case at0 => exact ⟨⟨_, Heap.get?_push_size _ rfl, rfl, rfl⟩, isl2.push _⟩
        case st =>
          have z := Heap.get?_push_of_some { cls := .type "list_iterator", data := .fields #[.ref l, .int 0 0] } here
          exact ⟨0, Nat.le_refl 0, setR_new_at z⟩
        · have hi : i < ns.length := by rw [← len]; exact (Array.getElem?_eq_some_iff.mp hv).1
          obtain ⟨t, e⟩ := PyProof.Rows.IntsAre.int_at areI i v (by rw [Array.getElem?_toList]; exact hv)
          exact ⟨ns[i], t, List.getElem?_eq_getElem hi, by rw [e, List.getD_eq_getElem?_getD, List.getElem?_eq_getElem hi] <;> rfl⟩
        · obtain ⟨h', g', d', tk', os'⟩ := s'
          obtain rfl : g' = s.gens := mv.gens
          obtain rfl : d' = s.drawn := mv.drawn
          obtain rfl : os' = s.os := mv.os
          show wpAny _ _ _ _ _ _
          refine wpAny_pure (show wpAny _ _ (ret Value.none) _ _ _ from wpAny_pure ⟨rfl, h', tk', c', rfl, R, fun b o e => ?_⟩)
          have b0 : b < s.heap.objs.size := Heap.lt_size e
          refine mv.heap b o (fun z => ?_) (Heap.get?_push_of_some _ (Heap.get?_push_of_some _ e))
          rcases List.mem_cons.mp z with z | z
          · exact absurd z (Nat.ne_of_lt b0)
          · have z := List.mem_singleton.mp z
            rw [sz] at z
            exact absurd z (Nat.ne_of_lt (Nat.lt_succ_of_lt b0))
      · rcases r2 with e2 | fl2
        case error => exact hr2
        case ok =>
          cases fl2 with
          | ret x =>
            obtain ⟨rfl, h', tk, c, rfl, R, keep⟩ := hr2
            repeat (any_goals (first | assumption | wp_step))
            exact h _ _ _ R keep
          | _ => exact hr2.elim
    | _ => exact hr.elim
end
end Pw
namespace Pw
open PySem PySem.Spec PyProof.Rows L2
theorem intsOf_len (ns : List Nat) : (intsOf ns).length = ns.length := by unfold intsOf; rw [List.length_map]
/-- the first page of a drawn context -/
theorem Pc.good0 {g : Pq} {st pres : List Nat} (gok : g.Ok) (hst : ∀ n ∈ st, n < 1000) (hsl : st.length ≤ 2) (hp : ∀ k ∈ pres, k < g.parts.length) (hpl : pres.length ≤ 2) : Pc.Good ⟨g, intsOf st, [], pres⟩ :=
  ⟨⟨gok, intsOf_sm hst, by show (intsOf st).length ≤ 2; rw [intsOf_len]; exact hsl, by simp, by simp, hp, hpl⟩, by simp⟩
theorem page_facts {X : Pc} (h : X.Good) : Nd.hts (fill X 12 [] (X.sc [] 0 []) (X.comp 0).cs []) ≤ 12 ∧ Nd.cnts (fill X 12 [] (X.sc [] 0 []) (X.comp 0).cs []) ≤ 70000 ∧ Nd.Poks (fill X 12 [] (X.sc [] 0 []) (X.comp 0).cs []) := by
  have c := h.comp (Nat.zero_le _)
  refine ⟨fill_ht X 12 _ _ _ _, ?_, fill_pok h.toOk 12 0 true [] _ _ [] (Nat.zero_le _) c.oks c.deps PathOk.nil PathOk.nil (by simp)⟩
  have h1 := fill_cnt h.toOk 12 0 true [] (X.sc [] 0 []) (X.comp 0).cs [] (Nat.zero_le _) c.oks
  have h2 := Tp.insts_le _ c.echs
  have h3 := c.cnts
  have h4 : Tp.insts (X.comp 0).cs ≤ 40 := by omega
  have h5 := Nat.mul_le_mul_right (below (X.g.comps.length - 1) 0) h4
  have h6 := below_tot (X.g.comps.length - 1) 0
  have h7 : tot (X.g.comps.length - 1 - 0) ≤ tot 2 := tot_mono (by have := h.g.many; omega)
  have h8 : tot 2 = 65640 := by decide
  omega
theorem fieldOf_pok {l : List Nd} (h : Nd.Poks l) : ∀ x ∈ fieldOf l, PathOk x.1 := by
  intro x hx
  unfold fieldOf at hx
  cases e : l.getLast? with
  | none => rw [e] at hx; cases hx
  | some n =>
    rw [e] at hx
    have hm := poks_mem h n (List.mem_of_getLast? e)
    cases n with
    | input p t o c v => cases hx; exact hm.2
    | _ => cases hx
theorem poks_rev {l : List Nd} (h : Nd.Poks l) : Nd.Poks l.reverse := poks_of fun n hn => poks_mem h n (List.mem_reverse.mp hn)
theorem pathT_ref {H : Hp} {p : Path} {v : V} (h : IsT H (pathT p) v) : ∃ a xs, v = .ref a ∧ H a = some (.tup xs) := let ⟨a, xs, e, e2, _⟩ := h.inv; ⟨a, xs, e, e2⟩
end Pw
namespace Pw
open PySem PySem.Spec PyProof.Rows L2
theorem nodup_le : ∀ (l D : List Int), l.Nodup → (∀ x ∈ l, x ∈ D) → l.length ≤ D.length
  | [], D, _, _ => Nat.zero_le _
  | x :: l, D, nd, h => by
    have hx := h x (by simp)
    have nx := List.nodup_cons.mp nd
    have z := nodup_le l (D.erase x) nx.2 (fun y hy => (List.mem_erase_of_ne (fun (e : y = x) => nx.1 (e ▸ hy))).mpr (h y (by simp [hy])))
    rw [List.length_erase_of_mem hx] at z
    have := List.length_pos_of_mem hx
    simp only [List.length_cons]
    omega
section
variable {X : Cx}
/-- set(l) of a list of ints -/
def rSetI (w : World) : List V → Hp → VK → Prop := fun vs H Q => ∃ (l : Addr) (ns : List Int), vs = [V.ref l] ∧ H l = some (.lst (ns.map V.int)) ∧ ns.length < 4000 ∧ ∀ p c, H p = none → (∀ D : List Int, (∀ j ∈ ns, j ∈ D) → c ≤ D.length) → Q (.ref p) (upd H p (SetO w p (fun j => decide (j ∈ ns)) c))
theorem cr_setI (hc : X.calm = true) : CallR X (.type "set") (rSetI X.w) := by
  intro pins s σ H vs us Q I r h
  obtain ⟨l, ns, rfl, hl, small, q⟩ := h
  rw [Vals.ref1 r]
  obtain ⟨z, its, n, rv, hlen, e⟩ := I.lstM hl
  refine set_of_list (A := X.A) ns (I.ok.hd hc) ⟨_, e, rfl, n, rfl⟩ (ints_of_vals rv) (Nat.lt_trans (Nat.add_lt_add_right small 1) (by decide)) fun h' tk c R keep => ?_
  refine ⟨.ref _, _, I.laid (t' := tk) keep (Nat.le_refl _) (setO_new R), rfl, q _ c (I.hok.fresh (Nat.le_refl _)) fun D hD => ?_⟩
  obtain ⟨o, es, ep, t, _, _, _, _, nd, mem, _, _, sz, _⟩ := R
  have z := nodup_le _ D nd fun x hx => hD x (by simpa using (mem x).mpr hx)
  rw [List.length_map, Array.length_toList] at z
  omega
end
/-! ### parts once -/
mutual
theorem Tp.dis1_pts : ∀ (t : Tp) (c : Sc) (addr reps : List Int), ∀ d ∈ t.dis1 c addr reps, d.tp.pts.Sublist t.pts
  | .when e cs os, c, addr, reps, d, h => by
    simp only [Tp.dis1] at h
    simp only [Tp.pts]
    split at h
    · exact (Tp.dis_pts os c _ reps 0 d h).trans (List.sublist_append_right _ _)
    · exact (Tp.dis_pts cs c _ reps 0 d h).trans (List.sublist_append_left _ _)
  | .each e cs, c, addr, reps, d, h => by
    simp only [Tp.dis1, List.mem_flatMap] at h
    obtain ⟨n, _, h⟩ := h
    exact Tp.dis_pts cs _ addr _ 0 d h
  | .text _, c, addr, reps, d, h | .show _, c, addr, reps, d, h | .input _ _, c, addr, reps, d, h | .part _, c, addr, reps, d, h | .box _ _ _ _, c, addr, reps, d, h | .child _ _ _, c, addr, reps, d, h => by
    simp only [Tp.dis1, List.mem_singleton] at h
    subst h
    exact List.Sublist.refl _
theorem Tp.dis_pts : ∀ (ts : List Tp) (c : Sc) (before reps : List Int) (k : Nat), ∀ d ∈ Tp.dis c before reps k ts, d.tp.pts.Sublist (Tp.ptss ts)
  | [], c, before, reps, k, d, h => nomatch h
  | t :: ts, c, before, reps, k, d, h => by
    simp only [Tp.dis, List.mem_append] at h
    simp only [Tp.ptss]
    rcases h with h | h
    · exact (Tp.dis1_pts t c _ reps d h).trans (List.sublist_append_left _ _)
    · exact (Tp.dis_pts ts c before reps (k + 1) d h).trans (List.sublist_append_right _ _)
end
/-! ### what was told -/
def lastOf : List (Path × List Int) → Path → Option (List Int)
  | [], _ => none
  | it :: r, p => (lastOf r p).or (if it.1 = p then some it.2 else none)
theorem lastOf_app (b : List (Path × List Int)) (p : Path) : ∀ a : List (Path × List Int), lastOf (a ++ b) p = (lastOf b p).or (lastOf a p)
  | [] => by simp [lastOf]
  | it :: a => by simp only [List.cons_append, lastOf, lastOf_app b p a, Option.or_assoc]
theorem lastOf_fold (p : Path) : ∀ (cs : List (Path × List Int)) (z : List Int), cs.foldl (fun acc it => if it.1 = p then it.2 else acc) z = (lastOf cs p).getD z
  | [], z => rfl
  | it :: r, z => by
    rw [List.foldl_cons, lastOf_fold p r, lastOf]
    cases lastOf r p <;> by_cases e : it.1 = p <;> simp [e]
def RelT (H : Hp) : Option (List Int) → Option V → Prop
  | none, none => True
  | some xs, some v => IsT H (intsT xs) v
  | _, _ => False
theorem RelT.oth {H H' : Hp} {S : List Addr} {a : Option (List Int)} {b : Option V} (h : RelT H a b) (o : Oth S H H') : RelT H' a b := by
  cases a <;> cases b <;> first | exact h | exact IsT.oth h o
def Told (H : Hp) (cs : List (Path × List Int)) (kvs : List (NestedKey × V)) : Prop := ∀ p : Path, RelT H (lastOf cs p) (valV kvs (pathT p).nk)
theorem Told.nil {H : Hp} : Told H [] [] := fun p => True.intro
theorem Told.put {H : Hp} {cs : List (Path × List Int)} {kvs : List (NestedKey × V)} (h : Told H cs kvs) {p : Path} {xs : List Int} {v : V} (t : IsT H (intsT xs) v) : Told H (cs ++ [(p, xs)]) (putK kvs (pathT p).nk v) := fun q => by
  rw [lastOf_app, valV_put]
  by_cases e : p = q
  · subst e
    simp only [lastOf, if_true, Option.or_some, Option.or]
    exact t
  · have e' : ¬ (pathT q).nk = (pathT p).nk := fun z => e (path_nk.mp z).symm
    simp only [lastOf, if_neg e, if_neg e', Option.or]
    exact h q
theorem Told.oth {H H' : Hp} {S : List Addr} {cs : List (Path × List Int)} {kvs : List (NestedKey × V)} (h : Told H cs kvs) (o : Oth S H H') : Told H' cs kvs := fun p => (h p).oth o
theorem path_depth : ∀ p : Path, NestedKey.depthAll (T.nks (p.map Nm.toT)) ≤ 3
  | [] => by simp [T.nks, NestedKey.depthAll]
  | n :: p => by
    have h := path_depth p
    cases n <;> simp only [List.map_cons, Nm.toT, intsT, T.nks, T.nk, NestedKey.depthAll, NestedKey.depth, nk_depths_int] <;> omega
theorem path_key {H : Hp} {p : Path} {v : V} (h : IsT H (pathT p) v) : ∃ b, v = .ref b ∧ NKey H (pathT p).nk b := by
  obtain ⟨b, xs, rfl, _⟩ := h.inv
  refine ⟨b, rfl, _, rfl, h, ?_⟩
  have := path_depth p
  simp only [pathT, T.nk, NestedKey.depth]
  omega
/-! ### what a page is made from -/
structure Given (P : Program) (w : World) (H : Hp) (ga td : Addr) (X : Pc) : Prop where
  ex : ∃ vp vs vr kvs, H ga = some (.tup [vp, vs, .ref td, vr]) ∧ IsT H X.g.toT vp ∧ IsT H (intsT X.st) vs ∧ DN P w H td kvs ∧ Told H X.cs kvs ∧ IsT H (natsT X.pres) vr
section
variable {P : Program} {w : World} {H H' : Hp} {ga td : Addr} {X : Pc}
theorem Given.oth {S : List Addr} (h : Given P w H ga td X) (o : Oth S H H') (n : td ∉ S) : Given P w H' ga td X := by
  obtain ⟨vp, vs, vr, kvs, e, a, b, d, t, r⟩ := h.ex
  exact ⟨_, _, _, kvs, o.tup _ _ e, a.oth o, b.oth o, d.oth o n, t.oth o, r.oth o⟩
theorem Given.nl (h : Given P w H ga td X) {l : Addr} {L : List V} (e : H l = some (.lst L)) : td ≠ l := by
  obtain ⟨vp, vs, vr, kvs, _, a, b, d, t, r⟩ := h.ex
  obtain ⟨φ, z⟩ := d.is
  intro ee
  rw [ee, e] at z
  cases z
theorem Given.nn (h : Given P w H ga td X) {l : Addr} (e : H l = none) : td ≠ l := by
  obtain ⟨vp, vs, vr, kvs, _, a, b, d, t, r⟩ := h.ex
  exact d.ne e
end
def compT (X : Pc) (n : Nat) (p : Path) (d : Nat) (props : List Int) : T := .tup [intsT (X.reads (lkAll n (X.sc p d props) (X.comp d).cs)), .tup (Nd.toTs (fill X n p (X.sc p d props) (X.comp d).cs p))]
def spMkComp (P : Program) (w : World) (n : Nat) : Sp := fun vs H Q _ => ∃ (X : Pc) (d : Nat) (p : Path) (props : List Int) (vp vq : V) (ga td : Addr), vs = [.ref ga, .int (d : Int), vp, vq] ∧ Given P w H ga td X ∧ X.Good ∧ IsT H (pathT p) vp ∧ IsT H (intsT props) vq ∧
  d ≤ X.g.comps.length - 1 ∧ Sm props ∧ 3 + 4 * (X.g.comps.length - 1 - d) < n ∧ PathOk p ∧ p.length + n ≤ 400 ∧
  ∀ v H', IsT H' (compT X n p d props) v → Oth [] H H' → Q v H'
def spMkChild (P : Program) (w : World) (n : Nat) : Sp := fun vs H Q _ => ∃ (X : Pc) (d : Nat) (p : Path) (props : List Int) (vp vq : V) (ga td : Addr), vs = [.ref ga, .int (d : Int), vp, vq] ∧ Given P w H ga td X ∧ X.Good ∧ IsT H (pathT p) vp ∧ IsT H (intsT props) vq ∧
  d ≤ X.g.comps.length - 1 ∧ Sm props ∧ 3 + 4 * (X.g.comps.length - 1 - d) < n ∧ PathOk p ∧ p.length + n ≤ 400 ∧
  ∀ v H', IsT H' (child X n p d props).toT v → Oth [] H H' → Q v H'
def spMkPart (P : Program) (w : World) (n : Nat) : Sp := fun vs H Q _ => ∃ (X : Pc) (kp : Nat) (p : Path) (o : Path) (c : Sc) (vp : V) (ga td : Addr), vs = [.ref ga, .int (kp : Int), vp] ∧ Given P w H ga td X ∧ X.Good ∧ IsT H (pathT p) vp ∧
  4 * (X.g.comps.length - 1) ≤ n ∧ PathOk p ∧ p.length + n ≤ 400 ∧
  ∀ v H', IsT H' (nodeOf X (fill X n) (lkAll n) o c p (.part kp)).toT v → Oth [] H H' → Q v H'
def spMkNode (P : Program) (w : World) (n : Nat) : Sp := fun vs H Q _ => ∃ (X : Pc) (own D : Nat) (free : Bool) (o p : Path) (c : Sc) (t : Tp) (vt vo vp vc : V) (ga td l : Addr) (L : List V), vs = [.ref ga, vt, vo, vp, vc, .ref l] ∧ Given P w H ga td X ∧ X.Good ∧ IsT H (pathT o) vo ∧ IsT H (pathT p) vp ∧
  IsT H c.toT vc ∧ H l = some (.lst L) ∧ IsT H t.toT vt ∧ c.Sm ∧ own ≤ X.g.comps.length - 1 ∧ t.node = true ∧ t.Ok own (X.g.comps.length - 1) free ∧ t.pts.Nodup ∧ t.wt ≤ 400 ∧ t.dep ≤ D ∧ D ≤ 3 ∧ D + 4 * (X.g.comps.length - 1 - own) ≤ n ∧
  L.length + (D + 1) * t.wt ≤ 40000 ∧ PathOk p ∧ p.length + n ≤ 400 ∧
  ∀ v H', IsT H' (nodeOf X (fill X n) (lkAll n) o c p t).toT v → H' l = some (.lst (L ++ (nodeLk (lkAll n) c t).map V.int)) → Oth [l] H H' → Q v H'
def spMkNodes (P : Program) (w : World) (n : Nat) : Sp := fun vs H Q _ => ∃ (X : Pc) (own : Nat) (free : Bool) (o p : Path) (c : Sc) (ts : List Tp) (vt vo vp vc : V) (ga td l : Addr) (L : List V), vs = [.ref ga, vt, vo, vp, vc, .ref l] ∧ Given P w H ga td X ∧ X.Good ∧ IsT H (pathT o) vo ∧ IsT H (pathT p) vp ∧
  IsT H c.toT vc ∧ H l = some (.lst L) ∧ IsT H (.tup (Tp.toTs ts)) vt ∧ c.Sm ∧ own ≤ X.g.comps.length - 1 ∧ Tp.Oks own (X.g.comps.length - 1) free ts ∧ (Tp.ptss ts).Nodup ∧ Tp.wts ts ≤ 400 ∧ Tp.deps ts ≤ 3 ∧ rank (X.g.comps.length - 1) own ts < n ∧
  L.length + (Tp.deps ts + 2) * Tp.wts ts ≤ 40000 ∧ PathOk p ∧ p.length + n ≤ 400 ∧
  ∀ v H', IsT H' (.tup (Nd.toTs (fill X n o c ts p))) v → H' l = some (.lst (L ++ (lkAll n c ts).map V.int)) → Oth [l] H H' → Q v H'
def spMkPage (n : Nat) : Sp := fun vs H Q _ => ∃ (X : Pc) (vp vs' vc vr : V), vs = [vp, vs', vc, vr] ∧ IsT H X.g.toT vp ∧ IsT H (intsT X.st) vs' ∧ IsT H (cellsT X.cs) vc ∧ IsT H (natsT X.pres) vr ∧ X.Good ∧ 3 + 4 * (X.g.comps.length - 1) < n ∧ n ≤ 400 ∧
  ∀ v H', IsT H' (compT X n [] 0 []) v → Oth [] H H' → Q v H'
theorem bo_set : bootBuiltins "set" = some (.type "set") := by decide +kernel
theorem bo_sorted : bootBuiltins "sorted" = some (.builtin "sorted") := by decide +kernel
/-! ### what a component reads -/
theorem asc_eq : ∀ {a b : List Int}, a.Pairwise (· < ·) → b.Pairwise (· < ·) → (∀ x, x ∈ a ↔ x ∈ b) → a = b
  | [], [], _, _, _ => rfl
  | [], y :: b, _, _, h => by have := (h y).mpr (by simp); simp at this
  | x :: a, [], _, _, h => by have := (h x).mp (by simp); simp at this
  | x :: a, y :: b, pa, pb, h => by
    obtain ⟨a1, a2⟩ := List.pairwise_cons.mp pa
    obtain ⟨b1, b2⟩ := List.pairwise_cons.mp pb
    have exy : x = y := by
      rcases List.mem_cons.mp ((h x).mp (by simp)) with e | e
      · exact e
      · rcases List.mem_cons.mp ((h y).mpr (by simp)) with e' | e'
        · exact e'.symm
        · have := b1 x e; have := a1 y e'; omega
    subst exy
    rw [asc_eq a2 b2 fun z => ?_]
    constructor
    · intro hz
      rcases List.mem_cons.mp ((h z).mp (by simp [hz])) with e | e
      · have := a1 z hz; omega
      · exact e
    · intro hz
      rcases List.mem_cons.mp ((h z).mpr (by simp [hz])) with e | e
      · have := b1 z hz; omega
      · exact e
def InR (m : Nat) (l : List Int) : Prop := ∀ k ∈ l, ∃ i : Nat, k = (i : Int) ∧ i < m
theorem InR.app {m : Nat} {a b : List Int} (x : InR m a) (y : InR m b) : InR m (a ++ b) := fun k h => (List.mem_append.mp h).elim (x k) (y k)
theorem InR.nil {m : Nat} : InR m [] := fun k h => nomatch h
theorem InR.flat {α : Type} {m : Nat} {f : α → List Int} {l : List α} (h : ∀ x ∈ l, InR m (f x)) : InR m (l.flatMap f) := fun k hk => by
  obtain ⟨x, hx, hk⟩ := List.mem_flatMap.mp hk
  exact h x hx k hk
theorem looks_in (c : Sc) : ∀ e : E, InR c.store.length (e.looks c)
  | .plus a b | .minus a b | .same a b | .less a b => (looks_in c a).app (looks_in c b)
  | .ite q a b => by
    simp only [E.looks]
    refine (looks_in c q).app ?_
    split
    · exact looks_in c b
    · exact looks_in c a
  | .store i => by
    simp only [E.looks]
    split
    · intro k hk; exact ⟨i, List.mem_singleton.mp hk, ‹_›⟩
    · exact .nil
  | .num _ | .cell _ | .prop _ | .index => .nil
theorem keyLooks_in (c : Sc) (k : Option E) : InR c.store.length (keyLooks c k) := by
  cases k with
  | none => exact .nil
  | some e => exact looks_in c e
mutual
theorem Tp.lk1_in : ∀ (t : Tp) (c : Sc), InR c.store.length (t.lk1 c)
  | .when e cs os, c => by
    simp only [Tp.lk1]
    refine (looks_in c e).app ?_
    split
    · exact Tp.lks_in os c
    · exact Tp.lks_in cs c
  | .each e cs, c => by
    simp only [Tp.lk1]
    exact (looks_in c e).app (.flat fun n _ => Tp.lks_in cs { c with index := (n : Int) })
  | .box _ key _ _, c => keyLooks_in c key
  | .child _ key _, c => keyLooks_in c key
  | .text _, c | .show _, c | .part _, c | .input _ _, c => .nil
theorem Tp.lks_in : ∀ (ts : List Tp) (c : Sc), InR c.store.length (Tp.lks c ts)
  | [], c => .nil
  | t :: ts, c => (Tp.lk1_in t c).app (Tp.lks_in ts c)
end
theorem lkAll_in : ∀ (n : Nat) (c : Sc) (ts : List Tp), InR c.store.length (lkAll n c ts)
  | 0, c, ts => .nil
  | n + 1, c, ts => by
    simp only [lkAll]
    refine (Tp.lks_in ts c).app (.flat fun it _ => ?_)
    cases it.2.1 with
    | «show» e => exact looks_in { c with index := it.2.2 } e
    | box _ _ _ cs => exact lkAll_in n { c with index := it.2.2 } cs
    | child _ _ props => exact .flat fun e _ => looks_in { c with index := it.2.2 } e
    | _ => exact .nil
theorem range_asc (m : Nat) : ((List.range m).map Int.ofNat).Pairwise (· < ·) := by
  rw [List.pairwise_map]
  exact List.pairwise_lt_range.imp fun h => Int.ofNat_lt.mpr h
theorem reads_eq {X : Pc} {lk ns : List Int} (h : InR X.st.length lk) (asc : ns.Pairwise (· < ·)) (mem : ∀ k : Int, k ∈ ns ↔ decide (k ∈ lk) = true) : ns = X.reads lk := by
  refine asc_eq asc ?_ fun x => ?_
  · unfold Pc.reads
    exact (range_asc _).sublist ((List.filter_sublist).map _)
  · rw [mem, decide_eq_true_iff]
    unfold Pc.reads
    rw [List.mem_map]
    constructor
    · intro hx
      obtain ⟨i, rfl, hi⟩ := h x hx
      exact ⟨i, List.mem_filter.mpr ⟨List.mem_range.mpr hi, decide_eq_true hx⟩, rfl⟩
    · rintro ⟨i, hi, rfl⟩
      exact of_decide_eq_true (List.mem_filter.mp hi).2
end Pw
namespace Pw
open PySem PySem.Spec PyProof.Rows L2
theorem Room.u20 {k : Nat} {A : Around} (hr : Room k A) : A.units + 20 < cLine := by have := Room.units65 hr; omega
theorem lkp_hd {f : Str} {v : V} {r : List (Str × V)} : List.lookup f ((f, v) :: r) = some v := by
  simp only [List.lookup, beq_self_eq_true]
theorem lkp_tl {f g : Str} {v : V} {r : List (Str × V)} (h : ¬ g = f) : List.lookup g ((f, v) :: r) = List.lookup g r := by
  have hb : (g == f) = false := beq_eq_false_iff_ne.mpr h
  simp only [List.lookup, hb]
theorem lkp_nil {g : Str} : List.lookup g ([] : List (Str × V)) = none := rfl
theorem putF_nil {f : Str} {v : V} : putF f v [] = [(f, v)] := rfl
theorem putF_hd {f : Str} {v x : V} {r : List (Str × V)} : putF f v ((f, x) :: r) = (f, v) :: r := by
  show (if f = f then (f, v) :: r else (f, x) :: putF f v r) = _
  rw [if_pos rfl]
theorem putF_tl {f g : Str} {v x : V} {r : List (Str × V)} (h : ¬ g = f) : putF f v ((g, x) :: r) = (g, x) :: putF f v r := by
  show (if g = f then (g, v) :: r else (g, x) :: putF f v r) = _
  rw [if_neg h]
/-- an object is written over -/
theorem Oth.ins {S : List Addr} {H : Hp} {b C dx : Addr} {fs : List (Str × V)} {o : HO} (hb : b ∈ S) (h : H b = some (.ins C dx fs)) : Oth S H (upd H b o) :=
  ⟨fun a o' n q => by rw [upd_ne (fun e => n (by rw [e]; exact hb))]; exact q, fun a xs q => by rw [upd_ne (ne_of q h (by intro z; cases z))]; exact q⟩
/-- data written out -/
def tLit (t : T) : TE := fun _ H Q => ∀ v H', IsT H' t v → Oth [] H H' → Q v H'
def tLits (ts : List T) : TA := fun _ H Q => ∀ vs H', Paired (IsT H') ts vs → Oth [] H H' → Q vs H'
section
variable {X : Cx} {pos : Pos} {es : List Expr} {e : Expr} {ts : List T} {t : T}
theorem PE.of {X : Cx} {e : Expr} {t u : TE} (h : PE X e t) (i : ∀ σ H Q, u σ H Q → t σ H Q) : PE X e u := ⟨fun pins s σ H Q I z => h.run pins s σ H Q I (i σ H Q z)⟩
theorem PA.of {X : Cx} {e : List Expr} {t u : TA} (h : PA X e t) (i : ∀ σ H Q, u σ H Q → t σ H Q) : PA X e u := ⟨fun p pins s σ H Q I z => h.run p pins s σ H Q I (i σ H Q z)⟩
theorem pl_nil : PA X [] (tLits []) := PA.of pa_nil fun σ H Q h => h [] H .nil Oth.refl
theorem pl_cons (h : PE X e (tLit t)) (hs : PA X es (tLits ts)) (st : starEach (e :: es) X.env = (false, eval e X.env) :: starEach es X.env := by rfl) : PA X (e :: es) (tLits (t :: ts)) :=
  PA.of (pa_cons h hs st) fun σ H Q q v H1 tv o1 vs H2 tvs o2 => q (v :: vs) H2 (.cons (tv.oth o2) tvs) (o1.trans o2)
theorem pl_tup {x1} (h : PA X es (tLits ts)) (z : ts.length ≤ 1000) : PE X (.Tuple es x1 pos) (tLit (.tup ts)) :=
  PE.of (pe_tup h) fun σ H Q q vs H1 tvs o1 => ⟨Nat.le_trans (by rw [(paired_get tvs).1]; exact z : vs.length ≤ 1000) (by decide), fun p hp => q _ _ (.mk upd_same (paired_oth tvs (Oth.new (S := []) hp))) (o1.trans (Oth.new hp))⟩
theorem pl_int {i : Int} {j} : PE X (.Constant (.int i) j pos) (tLit (.int i)) := PE.of pe_int fun σ H Q q => q _ _ (.int i) Oth.refl
theorem pl_str {x : Str} {j} : PE X (.Constant (.str x) j pos) (tLit (.str x)) := PE.of pe_str fun σ H Q q => q _ _ (.str x) Oth.refl
theorem pe_fldK {K : PySem.W.Frag} {f : Str} {ta : TE} (hK : X.K = K) (he : PE X e ta) (hb : attributeBase e f X.env (eval e X.env) = eval e X.env) : PE X (.Attribute e f pos) (tFld K ta f) := by subst hK; exact pe_fld he hb
end
end Pw
namespace Pw
open PySem PySem.Spec PyProof.Rows L2
theorem ne_gm : ¬ ("given" : Str) = "many" := by decide +kernel
theorem ne_mg : ¬ ("many" : Str) = "given" := by decide +kernel
theorem ne_kg : ¬ ("keep" : Str) = "given" := by decide +kernel
theorem ne_km : ¬ ("keep" : Str) = "many" := by decide +kernel
theorem ne_ng : ¬ ("number" : Str) = "given" := by decide +kernel
theorem ne_nm : ¬ ("number" : Str) = "many" := by decide +kernel
structure NumAt (P : Program) (w : World) (C : Addr) (H : Hp) (p d : Addr) (kvs : List (NestedKey × V)) (n : Nat) : Prop where
  ob : ∃ dx, H p = some (.ins C dx [("given", .ref d), ("many", .int (n : Int))])
  dn : DN P w H d kvs
section
variable {P : Program} {w : World} {C : Addr} {H H' : Hp} {p d : Addr} {kvs : List (NestedKey × V)} {n : Nat} {S : List Addr}
theorem NumAt.oth (h : NumAt P w C H p d kvs n) (o : Oth S H H') (np : p ∉ S) (nd : d ∉ S) : NumAt P w C H' p d kvs n := by
  obtain ⟨dx, e⟩ := h.ob
  exact ⟨⟨dx, o.keep _ _ np e⟩, h.dn.oth o nd⟩
theorem NumAt.nel {a : Addr} {xs : List V} (h : NumAt P w C H p d kvs n) (e : H a = some (.lst xs)) : a ≠ p ∧ a ≠ d := by
  obtain ⟨dx, h1⟩ := h.ob
  obtain ⟨φ, h2⟩ := h.dn.is
  exact ⟨ne_of e h1 (fun z => nomatch z), ne_of e h2 (fun z => nomatch z)⟩
theorem NumAt.npd (h : NumAt P w C H p d kvs n) : p ≠ d := by
  obtain ⟨dx, h1⟩ := h.ob
  obtain ⟨φ, h2⟩ := h.dn.is
  exact ne_of h1 h2 (fun z => nomatch z)
theorem NumAt.nep {a : Addr} (h : NumAt P w C H p d kvs n) (e : H a = none) : p ≠ a ∧ d ≠ a := by
  obtain ⟨dx, h1⟩ := h.ob
  exact ⟨ne_of_none h1 e, h.dn.ne e⟩
end
/-! ### promises -/
def spNInit (P : Program) (w : World) (C : Addr) : Sp := fun vs H Q _ => ∃ (p dx : Addr), vs = [.ref p] ∧ H p = some (.ins C dx []) ∧
  ∀ (d : Addr) (H' : Hp), H d = none → NumAt P w C H' p d [] 0 → Oth [p] H H' → Q .non H'
def NumStep (kvs kvs' : List (NestedKey × V)) (n n' : Nat) (k : NestedKey) (r : V) : Prop :=
  (valV kvs k = some r ∧ kvs' = kvs ∧ n' = n) ∨ (valV kvs k = none ∧ r = .int (n : Int) ∧ kvs' = putK kvs k (.int (n : Int)) ∧ n' = n + 1)
def spNumber (P : Program) (w : World) (C : Addr) : Sp := fun vs H Q _ => ∃ (p d : Addr) (kvs : List (NestedKey × V)) (n : Nat) (q : Path) (vp : V), vs = [.ref p, vp] ∧ NumAt P w C H p d kvs n ∧ IsT H (pathT q) vp ∧ kvs.length ≤ 100000 ∧
  ∀ (r : V) (kvs' : List (NestedKey × V)) (n' : Nat) (H' : Hp), NumStep kvs kvs' n n' (pathT q).nk r → NumAt P w C H' p d kvs' n' → Oth [p, d] H H' → Q r H'
def spKeep (P : Program) (w : World) (C : Addr) : Sp := fun vs H Q _ => ∃ (p d : Addr) (kvs : List (NestedKey × V)) (n : Nat) (qs : List Path) (vt : V), vs = [.ref p, vt] ∧ NumAt P w C H p d kvs n ∧ IsT H (.tup (qs.map pathT)) vt ∧ qs.length ≤ 100000 ∧
  ∀ (d' : Addr) (kvs' : List (NestedKey × V)) (H' : Hp), H d' = none → NumAt P w C H' p d' kvs' n → kvs'.length ≤ qs.length → (∀ q, valV kvs' (pathT q).nk = if q ∈ qs then valV kvs (pathT q).nk else none) → Oth [p] H H' → Q .non H'
/-! ### what the law knows -/
def lkN (ks : List (Path × Nat)) (q : Path) : Option Nat := (ks.find? fun it => it.1 = q).map (·.2)
def KV (kvs : List (NestedKey × V)) (ks : List (Path × Nat)) : Prop := ∀ q, valV kvs (pathT q).nk = (lkN ks q).map natV
theorem lkN_nil (q : Path) : lkN [] q = none := rfl
theorem lkN_cons (it : Path × Nat) (ks : List (Path × Nat)) (q : Path) : lkN (it :: ks) q = if it.1 = q then some it.2 else lkN ks q := by
  unfold lkN
  rw [List.find?_cons]
  by_cases h : it.1 = q
  · rw [if_pos h, decide_eq_true h]; rfl
  · rw [if_neg h, decide_eq_false h]
theorem lkN_none : ∀ {ks : List (Path × Nat)} {q : Path}, q ∉ ks.map (·.1) → lkN ks q = none
  | [], q, _ => rfl
  | it :: ks, q, h => by
    rw [List.map_cons, List.mem_cons, not_or] at h
    rw [lkN_cons, if_neg (fun e => h.1 e.symm), lkN_none h.2]
theorem lkN_not : ∀ {ks : List (Path × Nat)} {q : Path}, lkN ks q = none → q ∉ ks.map (·.1)
  | [], q, _ => by simp
  | it :: ks, q, h => by
    rw [lkN_cons] at h
    by_cases e : it.1 = q
    · rw [if_pos e] at h; cases h
    · rw [if_neg e] at h
      rw [List.map_cons, List.mem_cons, not_or]
      exact ⟨fun z => e z.symm, lkN_not h⟩
theorem lkN_snoc : ∀ {ks : List (Path × Nat)} {q p : Path} {n : Nat}, lkN ks q = none → lkN (ks ++ [(q, n)]) p = if p = q then some n else lkN ks p
  | [], q, p, n, _ => by
    rw [List.nil_append, lkN_cons]
    by_cases e : q = p
    · rw [if_pos e, if_pos e.symm]
    · rw [if_neg e, if_neg fun z => e z.symm]
  | it :: ks, q, p, n, h => by
    rw [lkN_cons] at h
    by_cases e : it.1 = q
    · rw [if_pos e] at h; cases h
    · rw [if_neg e] at h
      rw [List.cons_append, lkN_cons, lkN_cons, lkN_snoc h]
      by_cases z : it.1 = p
      · rw [if_pos z, if_pos z, if_neg fun y => e (z.trans y)]
      · rw [if_neg z, if_neg z]
theorem lkN_sub : ∀ {ks' ks : List (Path × Nat)}, List.Sublist ks' ks → (ks.map (·.1)).Nodup → ∀ q, lkN ks' q = if q ∈ ks'.map (·.1) then lkN ks q else none
  | _, _, .slnil, _, q => rfl
  | _, _, .cons (l₁ := l1) (l₂ := l2) it s, nd, q => by
    rw [List.map_cons, List.nodup_cons] at nd
    rw [lkN_sub s nd.2 q]
    by_cases h : q ∈ l1.map (·.1)
    · rw [if_pos h, if_pos h, lkN_cons, if_neg]
      intro e
      exact nd.1 (by rw [e]; exact (s.map _).mem h)
    · rw [if_neg h, if_neg h]
  | _, _, .cons₂ (l₁ := l1) (l₂ := l2) it s, nd, q => by
    rw [List.map_cons, List.nodup_cons] at nd
    rw [lkN_cons, lkN_cons, lkN_sub s nd.2 q, List.map_cons]
    by_cases h : it.1 = q
    · rw [if_pos h, if_pos h, if_pos (List.mem_cons.mpr (.inl h.symm))]
    · rw [if_neg h, if_neg h]
      by_cases g : q ∈ l1.map (·.1)
      · rw [if_pos g, if_pos (List.mem_cons.mpr (.inr g))]
      · rw [if_neg g, if_neg fun z => (List.mem_cons.mp z).elim (fun y => h y.symm) g]
theorem kv_nil : KV [] [] := fun q => rfl
theorem kv_put {kvs : List (NestedKey × V)} {ks : List (Path × Nat)} {q : Path} {n : Nat} (h : KV kvs ks) (e : lkN ks q = none) : KV (putK kvs (pathT q).nk (natV n)) (ks ++ [(q, n)]) := fun p => by
  rw [valV_put, lkN_snoc e]
  by_cases z : p = q
  · rw [if_pos (path_nk.mpr z), if_pos z]; rfl
  · rw [if_neg fun y => z (path_nk.mp y), if_neg z]; exact h p
theorem kv_keep {kvs kvs' : List (NestedKey × V)} {ks ks' : List (Path × Nat)} (h : KV kvs ks) (s : List.Sublist ks' ks) (nd : (ks.map (·.1)).Nodup) (e : ∀ q, valV kvs' (pathT q).nk = if q ∈ ks'.map (·.1) then valV kvs (pathT q).nk else none) : KV kvs' ks' := fun q => by
  rw [e, lkN_sub s nd]
  by_cases g : q ∈ ks'.map (·.1)
  · rw [if_pos g, if_pos g]; exact h q
  · rw [if_neg g, if_neg g]; rfl
theorem filt_lk : ∀ {ks : List (Path × Nat)} (q : Path), (ks.map (·.1)).Nodup → (ks.filter fun it => decide (it.1 = q)).map (·.2) = (lkN ks q).toList
  | [], q, _ => rfl
  | it :: ks, q, nd => by
    rw [List.map_cons, List.nodup_cons] at nd
    have ih := filt_lk q nd.2
    rw [lkN_cons]
    by_cases e : it.1 = q
    · rw [List.filter_cons_of_pos (by simpa using e), List.map_cons, ih, if_pos e, lkN_none (by rw [← e]; exact nd.1)]
      rfl
    · rw [List.filter_cons_of_neg (by simpa using e), ih, if_neg e]
def RowAt (H : Hp) (b kn : Addr) (it : Path × Nat) (v : V) : Prop := ∃ r vp, v = .ref r ∧ H r = some (.lst [vp, natV it.2]) ∧ IsT H (pathT it.1) vp ∧ r ≠ b ∧ r ≠ kn
abbrev RowsAt (H : Hp) (b kn : Addr) : List (Path × Nat) → List V → Prop := Paired (RowAt H b kn)
theorem RowAt.oth {H H' : Hp} {b kn : Addr} {S : List Addr} {it : Path × Nat} {v : V} (h : RowAt H b kn it v) (o : Oth S H H') (hs : ∀ a ∈ S, a = b ∨ a = kn ∨ ∀ xs, H a ≠ some (.lst xs)) : RowAt H' b kn it v := by
  obtain ⟨r, vp, rfl, e, t, n1, n2⟩ := h
  refine ⟨r, vp, rfl, o.keep _ _ (fun hr => ?_) e, t.oth o, n1, n2⟩
  rcases hs r hr with z | z | z
  · exact n1 z
  · exact n2 z
  · exact z _ e
theorem RowsAt.oth {H H' : Hp} {b kn : Addr} {S : List Addr} {ks : List (Path × Nat)} {vs : List V} (h : RowsAt H b kn ks vs) (o : Oth S H H') (hs : ∀ a ∈ S, a = b ∨ a = kn ∨ ∀ xs, H a ≠ some (.lst xs)) : RowsAt H' b kn ks vs := by
  induction h with
  | nil => exact .nil
  | cons r _ ih => exact .cons (r.oth o hs) ih
theorem Paired.get' {α β : Type} {R : α → β → Prop} : ∀ {xs : List α} {ys : List β}, Paired R xs ys → ∀ {i : Nat} {y : β}, ys[i]? = some y → ∃ x, xs[i]? = some x ∧ R x y
  | _, _, .nil, i, y, h => by simp at h
  | _, _, .cons r q, 0, y, h => by cases h; exact ⟨_, rfl, r⟩
  | _, _, .cons r q, i + 1, y, h => Paired.get' q (i := i) h
theorem Paired.len' {α β : Type} {R : α → β → Prop} : ∀ {xs : List α} {ys : List β}, Paired R xs ys → ys.length = xs.length
  | _, _, .nil => rfl
  | _, _, .cons _ q => congrArg (· + 1) (Paired.len' q)
def eight : List Path := [[], [.at [0] []], [.at [1] []], [.at [1] [2]], [.key [1] 7], [.part 0], [.part 0, .at [0] []], [.key [1] 8, .at [0, 1] [0, 1]]]
theorem eight_ok : ∀ q ∈ eight, PathOk q := by
  intro q hq
  simp only [eight, List.mem_cons, List.not_mem_nil, or_false] at hq
  rcases hq with rfl | rfl | rfl | rfl | rfl | rfl | rfl | rfl <;> exact ⟨by simp [Nm.short], by simp⟩
end Pw
namespace Pw
open PySem PySem.Spec PyProof.Rows L2
structure NumJ (P : Program) (w : World) (C : Addr) (H : Hp) (b d pl : Addr) (z : Bt) (pa p kn dd : Addr) (kvs : List (NestedKey × V)) (n : Nat) (ks : List (Path × Nat)) (vs xs8 : List V) : Prop where
  bx : By H b d pl z
  pth : H pa = some (.lst xs8)
  pp : Paired (IsT H) (eight.map pathT) xs8
  nb : pa ≠ b
  num : NumAt P w C H p dd kvs n
  kno : H kn = some (.lst vs)
  knb : kn ≠ b
  rows : RowsAt H b kn ks vs
  npk : pa ≠ kn
  nkd : d ≠ kn ∧ pl ≠ kn
section
variable {P : Program} {w : World} {C : Addr} {H H' : Hp} {b d pl : Addr} {z : Bt} {pa p kn dd : Addr} {kvs kvs' : List (NestedKey × V)} {n n' : Nat} {ks : List (Path × Nat)} {vs xs8 : List V}
theorem NumJ.ns (h : NumJ P w C H b d pl z pa p kn dd kvs n ks vs xs8) : b ≠ p ∧ b ≠ dd ∧ d ≠ p ∧ d ≠ dd ∧ pl ≠ p ∧ pl ≠ dd ∧ pa ≠ p ∧ pa ≠ dd ∧ kn ≠ p ∧ kn ≠ dd := by
  obtain ⟨xs, e⟩ := h.bx.is
  obtain ⟨ds, e2⟩ := h.bx.dig
  have a := h.num.nel e
  have a2 := h.num.nel e2
  have a3 := h.num.nel h.bx.parts
  have a4 := h.num.nel h.pth
  have a5 := h.num.nel h.kno
  exact ⟨a.1, a.2, a2.1, a2.2, a3.1, a3.2, a4.1, a4.2, a5.1, a5.2⟩
theorem NumJ.draw (h : NumJ P w C H b d pl z pa p kn dd kvs n ks vs xs8) (o : Oth [b] H H') (bx : By H' b d pl z) : NumJ P w C H' b d pl z pa p kn dd kvs n ks vs xs8 := by
  obtain ⟨h1, h2, _⟩ := h.ns
  exact ⟨bx, o.keep _ _ (by simp [h.nb]) h.pth, paired_oth h.pp o, h.nb, h.num.oth o (by simp [h1.symm]) (by simp [h2.symm]), o.keep _ _ (by simp [h.knb]) h.kno, h.knb, h.rows.oth o (by intro a ha; exact .inl (List.mem_singleton.mp ha)), h.npk, h.nkd⟩
theorem NumJ.oth (h : NumJ P w C H b d pl z pa p kn dd kvs n ks vs xs8) (o : Oth [] H H') : NumJ P w C H' b d pl z pa p kn dd kvs n ks vs xs8 :=
  h.draw (o.mono (by simp)) (h.bx.oth o (by simp) (by simp) (by simp))
theorem NumJ.step (h : NumJ P w C H b d pl z pa p kn dd kvs n ks vs xs8) (o : Oth [p, dd] H H') (nu : NumAt P w C H' p dd kvs' n') : NumJ P w C H' b d pl z pa p kn dd kvs' n' ks vs xs8 := by
  obtain ⟨h1, h2, h3, h4, h5, h6, h7, h8, h9, h10⟩ := h.ns
  refine ⟨h.bx.oth o (by simp [h1, h2]) (by simp [h3, h4]) (by simp [h5, h6]), o.keep _ _ (by simp [h7, h8]) h.pth, paired_oth h.pp o, h.nb, nu, o.keep _ _ (by simp [h9, h10]) h.kno, h.knb, h.rows.oth o fun a ha => .inr (.inr fun xs e => ?_), h.npk, h.nkd⟩
  have z := h.num.nel e
  simp only [List.mem_cons, List.not_mem_nil, or_false] at ha
  rcases ha with e | e
  · exact z.1 e
  · exact z.2 e
/-- one row more -/
theorem NumJ.more {r : Addr} {vp : V} {q : Path} {m : Nat} (h : NumJ P w C H b d pl z pa p kn dd kvs n ks vs xs8) (er : H r = some (.lst [vp, natV m])) (tp : IsT H (pathT q) vp) (rb : r ≠ b) (rk : r ≠ kn) :
    NumJ P w C (upd H kn (.lst (vs ++ [.ref r]))) b d pl z pa p kn dd kvs n (ks ++ [(q, m)]) (vs ++ [.ref r]) xs8 := by
  obtain ⟨h1, h2, h3, h4, h5, h6, h7, h8, h9, h10⟩ := h.ns
  have o : Oth [kn] H (upd H kn (.lst (vs ++ [.ref r]))) := Oth.put (by simp) h.kno
  refine ⟨h.bx.oth o (by simp [h.knb.symm]) (by simp [h.nkd.1]) (by simp [h.nkd.2]), o.keep _ _ (by simp [h.npk]) h.pth, paired_oth h.pp o, h.nb, h.num.oth o (by simp [h9.symm]) (by simp [h10.symm]), upd_same, h.knb, ?_, h.npk, h.nkd⟩
  exact Paired.snoc (h.rows.oth o fun a ha => .inr (.inl (List.mem_singleton.mp ha))) ⟨r, vp, rfl, o.keep _ _ (by simp [rk]) er, tp.oth o, rb, rk⟩
end
end Pw
namespace Pw
open PySem PySem.Spec PyProof.Rows L2
theorem enum_new_tup {v : Value} {o : Obj} {HH : Heap → Prop} (B : Begins v o HH) :
    Meets (Builtin.«enumerate.__new__» ⟨[.type "enumerate", v], []⟩) (fun _ R s => HH s.heap ∧
      R (.ok (.ret (.ref (s.heap.push o).objs.size))) { s with heap := (s.heap.push o).push { cls := .type "enumerate", data := .fields #[.none, .bool false, .ref s.heap.objs.size, rawInt 0, .none, .none] } }) :=
  .of_wp fun prog w A R s h => by
    obtain ⟨hp, g, d, tk, os⟩ := s
    obtain ⟨hB, h⟩ := h
    have isEnum := sub_enumerate
    have begun : ∀ {A' : Around} {E : Value → Shared → Prop} {Q : Value → Shared → Prop}, Q (.ref hp.objs.size) ⟨hp.push o, g, d, tk, os⟩ → wpAny (model prog w) A' (pyIter v) Q E ⟨hp, g, d, tk, os⟩ :=
      fun q => B.iter prog w _ _ ⟨hp, g, d, tk, os⟩ _ hB q
    wp_walk using begun
    refine wpAny_stack_any fun st => wpAny_pure ?_
    split
    · rename_i c _ _ _ _ _
      cases (c == Value.type "enumerate") <;> (wp_walk using begun; exact ⟨_, rfl, h⟩)
    · wp_walk using begun
      exact ⟨_, rfl, h⟩
section
variable {prog : Program} {w : World} {A : Around} {E : Value → Shared → Prop} {s : Shared}
theorem call_enum_tup {t : Addr} {items : Array Value} {Q : Value → Shared → Prop} (hT : IsTup s.heap t items)
    (h : ∀ h', IsEnum h' (s.heap.objs.size + 1) s.heap.objs.size 0 .none → h'.IsTupleIter s.heap.objs.size t 0 → (∀ b o, s.heap.get? b = some o → h'.get? b = some o) → Q (.ref (s.heap.objs.size + 1)) { s with heap := h' }) :
    wpAny (model prog w) A (call (.type "enumerate") [.ref t]) Q E s := by
  refine callType_new F.called_enumerate (by decide) (F.typeCall_enumerate_1 _) (F.newCall_enumerate_1 _) (fun obj => F.args_object_init_2 obj _) F.entry_enumerate_new (enum_new_tup (begins_tuple t items)) ⟨hT, ?_⟩
  generalize ho : ({ cls := .type "tuple_iterator", data := .fields #[.ref t, .int 0 0] } : Obj) = o
  have fr : o.isFreed = false := by subst ho; rfl
  have hz : (s.heap.push o).objs.size = s.heap.objs.size + 1 := Heap.size_push ..
  show _ ∧ _
  rw [hz]
  generalize hq : ({ cls := .type "enumerate", data := .fields #[.none, .bool false, .ref s.heap.objs.size, rawInt 0, .none, .none] } : Obj) = q
  have he : ((s.heap.push o).push q).get? (s.heap.objs.size + 1) = some q := by
    have z := Heap.get?_push_size (s.heap.push o) (o := q) (by subst hq; rfl)
    rw [hz] at z
    exact z
  have he' : IsEnum ((s.heap.push o).push q) (s.heap.objs.size + 1) s.heap.objs.size 0 .none := by subst hq; exact he
  refine ⟨⟨_, he', rfl⟩, h _ he' ?_ fun b ob x => Heap.get?_push_of_some _ (Heap.get?_push_of_some _ x)⟩
  subst ho
  exact ⟨_, Heap.get?_push_of_some _ (Heap.get?_push_size _ rfl), rfl, rfl⟩
end
/-- the tuple at a, its items in new pairs -/
def Itte (K : PySem.W.Frag) (a : Addr) (xs : List V) : It :=
  ⟨fun i H => SqT K H a xs ∧ i < xs.length, fun i H v H' => ∃ T x, v = .ref T ∧ H T = none ∧ H' = upd H T (.tup [.int (i : Nat), x]) ∧ xs[i]? = some x, fun i H => SqT K H a xs ∧ i = xs.length⟩
theorem turn_enumT {P : Program} {w : World} {K : PySem.W.Frag} {elts : List Expr} {kk : Nat} {tpos : Pos} (a e it : Addr) (xs : List V) :
    Turn P w K (.Tuple elts kk tpos) (Itte K a xs) [e, it] e (fun i h => (∃ old, IsEnum h e it ((i : Nat) : Int) old) ∧ h.IsTupleIter it a i ∧ e ≠ it ∧ a ≠ it ∧ a ≠ e) where
  mem := by simp
  obj := fun i h st b hb => by
    obtain ⟨⟨old, he⟩, ⟨o, ho, hc, hd⟩, _⟩ := st
    rcases (by simpa using hb : b = e ∨ b = it) with z | z
    · rw [z]; exact ⟨_, he, fun v q => nomatch q⟩
    · rw [z]; exact ⟨o, ho, fun v q => by rw [hd] at q; cases q⟩
  keep := fun i h h' st k => by
    obtain ⟨⟨old, he⟩, hi, hne⟩ := st
    exact ⟨⟨old, k e (by simp) _ he⟩, hi.at fun o q => k it (by simp) o q, hne⟩
  item := by
    intro X hP hw hK hc i pins s σ H E I hf st hg
    subst hP hw hK
    obtain ⟨⟨old, he⟩, hit, hne, hai, hae⟩ := st
    obtain ⟨hq, hi⟩ := hg
    obtain ⟨its, rv, tp, hz⟩ := I.tuple hq
    have hl := rv.length
    have e_lt : e < s.heap.objs.size := Heap.lt_size he
    have i_lt : it < s.heap.objs.size := by obtain ⟨_, q, _⟩ := hit; exact Heap.lt_size q
    have D := Draws.tuple (prog := X.prog) (w := X.w) (A := X.A.in1) (I.ok.hd hc) it a hai its.toArray
    refine wpAny_pyNext_enum_itemD D he ⟨hit, tp⟩ (by simp only [List.size_toArray]; omega) hne (by simp [hne, hae.symm]) fun u h' tk hu ho st' hT hsz hk => ?_
    obtain ⟨x, hx, ru⟩ : ∃ x, xs[i]? = some x ∧ RelV x u := by
      obtain ⟨u', hu', ru⟩ := rv.get (List.getElem?_eq_getElem hi)
      have hu2 : its[i]? = some u := by simpa using hu
      rw [hu2] at hu'
      cases hu'
      exact ⟨_, List.getElem?_eq_getElem hi, ru⟩
    refine ⟨_, rfl, wpAny_letOwnedTupleGo_enum (s := { s with heap := h', toks := tk + 1 }) ho fun h2 he2 sb => ?_⟩
    have hT2 : h2.get? s.heap.objs.size = some { cls := .type "tuple", data := .seq #[.int i tk, u] } := (sb.2 _ (Nat.ne_of_gt e_lt)).trans hT
    have new : ObjOk X.prog X.w (upd H s.heap.objs.size (.tup [.int (i : Nat), x])) h2 s.heap.objs.size (.tup [.int (i : Nat), x]) :=
      ⟨by show 2 ≤ sizeLine; decide, [.int i tk, u], .cons ⟨_, rfl⟩ (.cons ru .nil), ⟨_, hT2, rfl, _, rfl⟩⟩
    have I1 : Inv X pins σ (upd H s.heap.objs.size (.tup [.int (i : Nat), x])) { s with heap := h2, toks := tk + 1 } :=
      I.turnedNew (ch := [e, it]) (fun b ob hb q => (sb.2 b (fun z => hb (by simp [z]))).trans (hk b ob (fun z => hb (by simp [z])) (fun z => hb (by simp [z])) q)) hf (Nat.le_refl _) new
    refine ⟨.ref s.heap.objs.size, _, I1, rfl, ⟨_, x, rfl, I.hok.fresh (Nat.le_refl _), rfl, hx⟩, ⟨⟨u, ?_⟩, st'.1.at fun o q => (sb.2 it (Ne.symm hne)).trans q, hne, hai, hae⟩, fun b hb => ?_⟩
    · rw [show ((i + 1 : Nat) : Int) = (i : Int) + 1 by omega]
      exact he2
    · have lt : b < s.heap.objs.size := by
        rcases (by simpa using hb : b = e ∨ b = it) with z | z
        · rw [z]; exact e_lt
        · rw [z]; exact i_lt
      rw [upd_ne (Nat.ne_of_lt lt)]
      exact (hf b hb).1
  done := by
    intro X hP hw hK hc i pins s σ H E I hf st hg
    subst hP hw hK
    obtain ⟨⟨old, he⟩, hit, hne, hai, hae⟩ := st
    obtain ⟨hq, rfl⟩ := hg
    obtain ⟨its, rv, tp, hz⟩ := I.tuple hq
    obtain ⟨f0, f1, f2, f3, f4, f5⟩ := hf it (by simp)
    have hl := rv.length
    have D := Draws.tuple (prog := X.prog) (w := X.w) (A := X.A.in1) (I.ok.hd hc) it a hai its.toArray
    have e1 : xs.length = its.toArray.size := by simp only [List.size_toArray]; omega
    rw [e1] at hit he
    exact wpAny_pyNext_enum_endD D he ⟨hit, tp⟩ fun h' eb => ⟨rfl, I.turned (t' := s.toks) (fun b o hb q => eb b o hb q) f0 f1 f3 f4 f5⟩
  self := fun A i s Q E st h => let ⟨⟨_, he⟩, _⟩ := st; wpAny_pyIter_enum he h
def iEnumT (K : PySem.W.Frag) (ta : TA) : TI := fun σ H R => ta σ H fun vs H1 => ∃ a xs, vs = [.ref a] ∧ SqT K H1 a xs ∧ R (Itte K a xs) H1
theorem pi_enumT {X : Cx} {e : Expr} {ta : TA} {p pos tpos : Pos} {elts : List Expr} {kk : Nat} (hg : Gl X "enumerate") (hm : X.mg "enumerate" = none) (ha : PA X [e] ta) (hs : starEach [e] X.env = [(false, eval e X.env)] := by rfl) :
    PI X (.Tuple elts kk tpos) (.Call (.Name "enumerate" p) [e] [] pos) (iEnumT X.K ta) := by
  refine ⟨fun pins s σ H R I h => ?_⟩
  refine Call_ (ld_blt I hg hm boot_enumerate (PyProof.Rows.callWith_type1 (thn (ha.run pos pins s σ H _ I h) fun us s1 ⟨vs, H1, I1, r1, qq⟩ => ?_) hs rfl))
  obtain ⟨a, xs, rfl, hq, q⟩ := qq
  cases r1 with
  | cons r rr =>
    cases rr
    cases r
    obtain ⟨its, rv, tp, hz⟩ := I1.tuple hq
    have a_lt : a < s1.heap.objs.size := tp.lt
    refine call_enum_tup tp fun h' he hit hk => wpAny_pyIter_enum he ?_
    have I2 : Inv X pins σ H1 { s1 with heap := h' } := I1.kept (t' := s1.toks) hk
    refine ⟨s1.heap.objs.size + 1, [s1.heap.objs.size + 1, s1.heap.objs.size], _, _, H1, rfl, I2, turn_enumT a (s1.heap.objs.size + 1) s1.heap.objs.size xs, ⟨⟨.none, he⟩, hit, Nat.succ_ne_self _, Nat.ne_of_lt a_lt, Nat.ne_of_lt (Nat.lt_succ_of_lt a_lt)⟩, fun b hb => ?_, q⟩
    have hle : s1.heap.objs.size ≤ b := by
      rcases (by simpa using hb : b = s1.heap.objs.size + 1 ∨ b = s1.heap.objs.size) with z | z
      · rw [z]; exact Nat.le_add_right _ _
      · rw [z]; exact Nat.le_refl _
    exact I1.fpOk hle (I1.hok.fresh hle)
/-- a for over it -/
theorem for_enumT {K : PySem.W.Frag} {a : Addr} {xs : List V} {g : TG} {tb : TS} {D : Ends} {σ : L2.St} {H : Hp} (Pv : Nat → L2.St → Hp → Prop) (h0 : Pv 0 σ H) (hl : ∀ i σ H, i ≤ xs.length → Pv i σ H → SqT K H a xs)
    (hs : ∀ i x σ H T, xs[i]? = some x → Pv i σ H → H T = none → g (.ref T) σ (upd H T (.tup [.int (i : Nat), x])) fun σ2 H2 => tb { D with nx := Pv (i + 1), ct := Pv (i + 1), bk := D.nx } σ2 H2) (hd : ∀ σ H, Pv xs.length σ H → D.nx σ H) :
    ∃ W : Nat → Nat → L2.St → Hp → Prop, (∃ m, W 0 m σ H) ∧ ∀ i m σ H, W i m σ H →
      ((Itte K a xs).stop i H ∧ D.nx σ H) ∨ ((Itte K a xs).go i H ∧ ∃ N : L2.St → Hp → Prop, (∀ σ' H', N σ' H' → ∃ m', m' < m ∧ W (i + 1) m' σ' H') ∧ ∀ x H', (Itte K a xs).yld i H x H' → g x σ H' fun σ2 H2 => tb { D with nx := N, ct := N, bk := D.nx } σ2 H2) := by
  refine ⟨fun i m σ H => m = xs.length - i ∧ i ≤ xs.length ∧ Pv i σ H, ⟨xs.length, by simp, Nat.zero_le _, h0⟩, ?_⟩
  rintro i m σ H ⟨rfl, hi, p⟩
  have q := hl i σ H hi p
  by_cases lt : i < xs.length
  · refine .inr ⟨⟨q, lt⟩, Pv (i + 1), fun σ' H' p' => ⟨xs.length - (i + 1), by omega, rfl, lt, p'⟩, fun v H' y => ?_⟩
    obtain ⟨T, x, rfl, hT, rfl, hx⟩ := y
    exact hs i x σ H T hx p hT
  · obtain rfl : i = xs.length := by omega
    exact .inl ⟨⟨q, rfl⟩, hd σ H p⟩
end Pw
namespace Pw
open PySem PySem.Spec PyProof.Rows L2
def topS (i : Nat) : Stmt := PySem.Challenge.pw_pagewake_k41_numbers_of_paths.main.body.getD i (.Pass ⟨0, 0, 0, 0⟩)
abbrev sCell : Stmt := topS 3
abbrev sDigits : Stmt := topS 4
abbrev sDraw : Stmt := topS 6
theorem scCell : FnScope ["script", "k"] ["script", "k"] (defScope sCell) := ⟨rfl, rfl, rfl, by decide +kernel, rfl, by decide +kernel, by decide +kernel⟩
theorem scDigits : FnScope ["script", "first", "last", "digits", "k", "cell", "turn", "seed"] ["script", "first", "last"] (defScope sDigits) := ⟨rfl, rfl, rfl, by decide +kernel, rfl, by decide +kernel, by decide +kernel⟩
theorem scDraw : FnScope ["box", "many", "at"] ["box", "many"] (defScope sDraw) := ⟨rfl, rfl, rfl, by decide +kernel, rfl, by decide +kernel, by decide +kernel⟩
section
variable {P : Program} {w : World} {K : PySem.W.Frag} {mg : Str → Option Value} {base : Heap}
theorem ok_cell {f : Addr} {fd : FuncData} {k : Nat} (F : Fun K "_law_cell" "_law_cell" sCell f fd) (ml : mg "len" = none) : FnOk P w K mg base CX0 (k + 1) f fd ["script", "k"] (spCell' K) := by
  refine F.ok scCell (fun vs H Q E h => ?_) (fun cdv A outer s H vs Q E hr h => ?_)
  · obtain ⟨a, xs, i, rfl, _⟩ := h
    rfl
  obtain ⟨a, ns, i, rfl, hS, q⟩ := h
  refine ⟨_, pss_cons (ps_if (pt_cmpR op_lt (pv 1) (pe_callB call_len_seq (by rfl) ml PySem.boot_len (pa_cons (pv 0) pa_nil)) (nomark _)) (pss_one (ps_ret (pe_ix ix_list (pv 0) (pv 1) (fun _ _ => rfl)))) pss_nil)
    (pss_one (ps_ret pe_int)), ?_⟩
  refine ⟨_, rfl, _, rfl, a, _, rfl, .inl hS, _, _, rfl, rfl, _, rfl, ite2 (fun c => ?_) (fun c => ?_)⟩
  · have c' : (i : Int) < (((ns.map V.int).length : Nat) : Int) := of_decide_eq_true c
    have c2 : i < (ns.map V.int).length := by omega
    rw [List.length_map] at c2
    have g : (ns.map V.int)[i]? = some (.int ns[i]) := by rw [List.getElem?_map, List.getElem?_eq_getElem c2]; rfl
    exact ⟨_, rfl, _, rfl, a, _, _, _, rfl, rfl, hS, atI_nat g, q _⟩
  · exact q 0
theorem ok_draw {f : Addr} {fd : FuncData} {k : Nat} (F : Fun K "_law_draw" "_law_draw" sDraw f fd) (ml : mg "len" = none) (mi : mg "int" = none) : FnOk P w K mg base CX0 (k + 1) f fd ["box", "many"] spDraw := by
  refine F.ok scDraw (fun vs H Q E h => ?_) (fun cdv A outer s H vs Q E hr h => ?_)
  · obtain ⟨b, d, m, rest, rfl, _⟩ := h
    rfl
  obtain ⟨b, d, m, rest, rfl, hm, ⟨ds, at', hb, hd⟩, q⟩ := h
  have nd := scDraw.nd
  have i0 : ∀ (xs : List V) (x : V), atI (x :: xs) 0 = some x := fun xs x => atI_nat (j := 0) rfl
  have i1 : ∀ (xs : List V) (x y : V), atI (x :: y :: xs) 1 = some y := fun xs x y => atI_nat (j := 1) rfl
  refine ⟨_, pss_cons (ps_set (i := 2) nd rfl (.inl rfl) (pe_ix ix_list (pv 0) pe_int (fun _ _ => rfl)))
    (pss_cons (ps_asg (pe_op op_add (pv 2) pe_int) (pg_sub (pv 0) pe_int set_list))
    (pss_cons (ps_if (pt_cmpR op_lt (pv 2) (pe_callB call_len_seq (by rfl) ml PySem.boot_len (pa_cons (pe_ix ix_list (pv 0) pe_int (fun _ _ => rfl)) pa_nil)) (nomark _))
        (pss_one (ps_ret (pe_op op_mod (pe_callTy call_int1 (by rfl) mi bo_int (pa_cons (pe_ix ix_list (pe_ix ix_list (pv 0) pe_int (fun _ _ => rfl)) (pv 2) (fun _ _ => rfl)) pa_nil)) (pv 1)))) pss_nil)
      (pss_one (ps_ret pe_int)))), ?_⟩
  refine ⟨_, rfl, b, _, _, _, rfl, rfl, SqL.of hb, i1 _ _ _, ?_⟩
  refine ⟨_, rfl, _, _, rfl, rfl, _, rfl, b, _, 1, 1, rfl, rfl, hb, ?_, ?_⟩
  · show (if (0 : Int) ≤ 1 then (if (1 : Int) < ((rest.length + 1 + 1 : Nat) : Int) then some (1 : Int).toNat else none) else _) = some 1
    rw [if_pos (by decide), if_pos (by omega)]
    rfl
  have dne : d ≠ b := by
    intro e
    rw [e, hb] at hd
    cases ds with
    | nil => cases hd
    | cons x r => cases hd
  have hb' : upd H b (.lst (.ref d :: .int ((at' : Int) + 1) :: rest)) b = some (.lst (.ref d :: .int ((at' : Int) + 1) :: rest)) := upd_same
  have hd' : upd H b (.lst (.ref d :: .int ((at' : Int) + 1) :: rest)) d = some (.lst (ds.map V.int)) := by rw [upd_ne dne]; exact hd
  have o1 : Oth [b] H (upd H b (.lst (.ref d :: .int ((at' : Int) + 1) :: rest))) := Oth.put (by simp) hb
  have bx : Box (upd H b (.lst (.ref d :: .int ((at' : Int) + 1) :: rest))) b d rest := ⟨ds, at' + 1, by rw [hb']; rfl, hd'⟩
  refine ⟨_, rfl, _, rfl, b, _, _, _, rfl, rfl, SqL.of hb', i0 _ _, d, _, rfl, .inl (SqL.of hd'), _, _, rfl, rfl, _, rfl, ite2 (fun c => ?_) (fun c => ?_)⟩
  · have c' : (at' : Int) < (((ds.map V.int).length : Nat) : Int) := of_decide_eq_true c
    have c2 : at' < (ds.map V.int).length := by omega
    rw [List.length_map] at c2
    have g : (ds.map V.int)[at']? = some (.int ds[at']) := by rw [List.getElem?_map, List.getElem?_eq_getElem c2]; rfl
    refine ⟨_, rfl, b, _, _, _, rfl, rfl, SqL.of hb', i0 _ _, _, rfl, d, _, _, _, rfl, rfl, SqL.of hd', atI_nat g, .inl ⟨_, rfl, _, rfl, _, _, rfl, rfl, hm, ?_⟩⟩
    exact q _ _ (Int.emod_nonneg _ (by omega)) (Int.emod_lt_of_pos _ hm) bx o1
  · exact q 0 _ (by omega) hm bx o1
theorem ok_digits {f g : Addr} {fd gd : FuncData} {k : Nat} (F : Fun K "_law_digits" "_law_digits" sDigits f fd) (GC : FnOk P w K mg base CX0 k g gd ["script", "k"] (spCell' K)) (bC : Binds K gd ["script", "k"] []) (kC : PySem.W.keepIn K (.ref g) = true) (mC : mg "_law_cell" = some (.ref g))
    (m_range : mg "range" = none) (m_int : mg "int" = none) : FnOk P w K mg base CX0 (k + 1) f fd ["script", "first", "last"] (spDigits K) := by
  refine F.ok scDigits (fun vs H Q E h => ?_) (fun cdv A outer s H vs Q E hr h => ?_)
  · obtain ⟨a, ns, i, j, rfl, _⟩ := h
    rfl
  obtain ⟨a, ns, i0, j0, rfl, hS, hi0, hj0, q⟩ := h
  have nd := scDigits.nd
  refine ⟨_, (pss_cons (ps_set (i := 3) nd rfl (.inl rfl) (pe_lst pa_nil))
  (pss_cons (ps_for PassesOwn.never rfl (pi_range2 (by rfl) m_range (pa_cons (pv 1) (pa_cons (pv 2) pa_nil))) (pg_name (i := 4) nd rfl (.inl rfl))
  (pss_cons (ps_set (i := 5) nd rfl (.inl rfl) (pe_call GC hr rfl mC kC bC .nil pass0 (pa_cons (pv 0) (pa_cons (pv 4) pa_nil))))
  (pss_cut (ps_if (pt_cmpR op_lt (pv 5) pe_int (nomark _))
  (pss_one (ps_set (i := 5) nd rfl (.inl rfl) (pe_op op_sub pe_int (pe_op op_mul pe_int (pv 5)))))
  pss_nil)
  (pss_one (ps_if (pt_cmpR op_ge (pv 5) (pe_op op_pow pe_int pe_int) (nomark _))
  (pss_one (ps_for PassesOwn.never rfl (pi_range1 (by rfl) m_range (pa_cons pe_int pa_nil)) (pg_name (i := 6) nd rfl (.inl rfl))
  (pss_one (ps_if (pt_cmpR op_gt (pv 5) pe_int (nomark _))
  (pss_cons (ps_expr (pe_bm PySem.F.plainAttrs_list PySem.F.slot_list_append PySem.F.type_list_append mt_append (pv 3) (pa_cons (pe_op op_mod (pe_callTy call_int1 (by rfl) m_int bo_int (pa_cons (pv 5) pa_nil)) pe_int) pa_nil)))
  (pss_one (ps_set (i := 5) nd rfl (.inl rfl) (pe_op op_fdiv (pv 5) pe_int))))
  pss_nil))))
  (pss_cons (ps_set (i := 7) nd rfl (.inl rfl) (pe_op op_mod (pe_callTy call_int1 (by rfl) m_int bo_int (pa_cons (pe_op op_add (pe_op op_add (pe_op op_mul (pv 5) pe_int) (pe_op op_mul (pv 4) pe_int)) pe_int) pa_nil)) pe_int))
  (pss_one (ps_for PassesOwn.never rfl (pi_range1 (by rfl) m_range (pa_cons pe_int pa_nil)) (pg_name (i := 6) nd rfl (.inl rfl))
  (pss_cons (ps_set (i := 7) nd rfl (.inl rfl) (pe_op op_mod (pe_callTy call_int1 (by rfl) m_int bo_int (pa_cons (pe_op op_add (pe_op op_add (pe_op op_mul (pv 7) pe_int) (pe_op op_mul pe_int (pv 6))) pe_int) pa_nil)) pe_int))
  (pss_one (ps_expr (pe_bm PySem.F.plainAttrs_list PySem.F.slot_list_append PySem.F.type_list_append mt_append (pv 3) (pa_cons (pe_op op_mod (pe_callTy call_int1 (by rfl) m_int bo_int (pa_cons (pe_op op_fdiv (pv 7) pe_int) pa_nil)) pe_int) pa_nil)))))))))))))
  (pss_one (ps_ret (pv 3))))), ?_⟩
  refine ⟨Nat.zero_le _, fun p hp => ?_⟩
  refine ⟨_, rfl, _, rfl, (i0 : Int), (j0 : Int), rfl, ⟨by omega, by omega, by omega, by omega⟩, for_range (lo := (i0 : Int)) (n := ((j0 : Int) - (i0 : Int)).toNat)
    (fun i σ H1 => ∃ (x4 x5 x6 x7 : Option V) (ds : List Int), σ = [some (.ref a), some (.int (i0 : Int)), some (.int (j0 : Int)), some (.ref p), x4, x5, x6, x7] ∧ Oth [] H H1 ∧ H1 p = some (.lst (ds.map V.int)) ∧ ds.length ≤ 60 * i)
    ⟨none, none, none, none, [], rfl, Oth.new hp, upd_same, Nat.zero_le _⟩ (fun i σ H1 hi hW => ?_) (fun σ H1 hW => ?_)⟩
  · obtain ⟨x4, x5, x6, x7, ds, rfl, o1, hp1, hds⟩ := hW
    have hi2 : i < 100 := by omega
    refine ⟨_, rfl, _, rfl, a, ns, i0 + i, rfl, o1.sqL (by simp) hS, fun x => ?_⟩
    refine ⟨fun σ2 H2 => H2 = H1 ∧ ∃ c : Int, 0 ≤ c ∧ σ2 = [some (.ref a), some (.int (i0 : Int)), some (.int (j0 : Int)), some (.ref p), some (.int ((i0 : Int) + (i : Int))), some (.int c), x6, x7], ?_, ?_⟩
    · refine ⟨_, rfl, _, _, rfl, rfl, _, rfl, ite2 (fun c => ?_) (fun c => ?_)⟩
      · have c' : x < 0 := of_decide_eq_true c
        exact ⟨_, rfl, _, _, rfl, rfl, .inl ⟨by decide, by decide⟩, _, _, rfl, rfl, rfl, _, by omega, rfl⟩
      · have c' : ¬ x < 0 := of_decide_eq_false (Bool.eq_false_iff.mpr c)
        exact ⟨rfl, x, by omega, rfl⟩
    · rintro σ2 H2 ⟨rfl, c, hc, rfl⟩
      refine ⟨_, rfl, _, _, rfl, rfl, ⟨by decide, by decide, by decide⟩, _, _, rfl, rfl, _, rfl, ite2 (fun y => ?_) (fun y => ?_)⟩
      · refine ⟨60, rfl, by decide, by decide, for_range (lo := 0) (n := 60)
          (fun j σ H3 => ∃ (x6 : Option V) (c : Int) (ds : List Int), σ = [some (.ref a), some (.int (i0 : Int)), some (.int (j0 : Int)), some (.ref p), some (.int ((i0 : Int) + (i : Int))), some (.int c), x6, x7] ∧ Oth [] H H3 ∧ H3 p = some (.lst (ds.map V.int)) ∧ ds.length ≤ 60 * i + j)
          ⟨x6, c, ds, rfl, o1, hp1, by omega⟩ (fun j σ H3 hj hW => ?_) (fun σ H3 hW => ?_)⟩
        · obtain ⟨x6, c, ds, rfl, o3, hp3, hd3⟩ := hW
          refine ⟨_, rfl, _, _, rfl, rfl, _, rfl, ite2 (fun y => ?_) (fun y => ?_)⟩
          · have hs : (ds.map V.int).length < sizeLine := by rw [List.length_map]; exact Nat.lt_of_le_of_lt (by omega : ds.length ≤ 100000) (by decide)
            refine ⟨_, rfl, .inl ⟨rfl, _, SqL.of hp3⟩, _, rfl, .inl ⟨_, rfl, _, _, rfl, rfl, (by show (0 : Int) < 1000; decide), p, _, _, rfl, rfl, hp3, hs, ?_⟩⟩
            refine ⟨_, rfl, _, _, rfl, rfl, ⟨by decide, by decide⟩, _, _, ds ++ [c % 1000], rfl, (((o3.mono (S' := [p]) (by simp)).trans (Oth.put (by simp) hp3)).drop hp), ?_, ?_⟩
            · rw [upd_same, List.map_append]; rfl
            · rw [List.length_append]; simp; omega
          · exact ⟨_, c, ds, rfl, o3, hp3, by omega⟩
        · obtain ⟨x6, c, ds, rfl, o3, hp3, hd3⟩ := hW
          exact ⟨_, _, _, _, ds, rfl, o3, hp3, by omega⟩
      · have y' : c < 10 ^ 18 := Int.not_le.mp fun z => y (decide_eq_true z)
        have y2 : c < 1000000000000000000 := Int.lt_of_lt_of_le y' (by decide)
        refine ⟨_, rfl, _, _, rfl, rfl, .inl ⟨by omega, by omega⟩, _, rfl, _, _, rfl, rfl, .inl ⟨by omega, by omega⟩, _, _, rfl, rfl, _, _, rfl, rfl, .inl ⟨_, rfl, _, _, rfl, rfl, (by show (0 : Int) < 2147483647; decide), ?_⟩⟩
        have s0 : 0 ≤ (c * 48271 + ((i0 : Int) + (i : Int)) * 69621 + 11) % 2147483647 := Int.emod_nonneg _ (by decide)
        have s1 : (c * 48271 + ((i0 : Int) + (i : Int)) * 69621 + 11) % 2147483647 < 2147483647 := Int.emod_lt_of_pos _ (by decide)
        refine ⟨12, rfl, by decide, by decide, for_range (lo := 0) (n := 12)
          (fun j σ H3 => ∃ (x6 : Option V) (s : Int) (ds : List Int), σ = [some (.ref a), some (.int (i0 : Int)), some (.int (j0 : Int)), some (.ref p), some (.int ((i0 : Int) + (i : Int))), some (.int c), x6, some (.int s)] ∧ 0 ≤ s ∧ s < 2147483647 ∧ Oth [] H H3 ∧ H3 p = some (.lst (ds.map V.int)) ∧ ds.length ≤ 60 * i + j)
          ⟨x6, _, ds, rfl, s0, s1, o1, hp1, by omega⟩ (fun j σ H3 hj hW => ?_) (fun σ H3 hW => ?_)⟩
        · obtain ⟨x6, s', ds, rfl, t0, t1, o3, hp3, hd3⟩ := hW
          have hs : (ds.map V.int).length < sizeLine := by rw [List.length_map]; exact Nat.lt_of_le_of_lt (by omega : ds.length ≤ 100000) (by decide)
          refine ⟨_, rfl, _, _, rfl, rfl, .inl ⟨by omega, by omega⟩, _, rfl, _, _, rfl, rfl, .inl ⟨by decide, by decide⟩, _, _, rfl, rfl, _, _, rfl, rfl, .inl ⟨_, rfl, _, _, rfl, rfl, (by show (0 : Int) < 2147483647; decide), ?_⟩⟩
          refine ⟨_, rfl, .inl ⟨rfl, _, SqL.of hp3⟩, _, rfl, _, _, rfl, rfl, ⟨by decide, by decide⟩, .inl ⟨_, rfl, _, _, rfl, rfl, (by show (0 : Int) < 1000; decide), p, _, _, rfl, rfl, hp3, hs, ?_⟩⟩
          refine ⟨_, _, ds ++ [((s' * 16807 + 7 * (0 + (j : Int)) + 1) % 2147483647 / 997) % 1000], rfl, Int.emod_nonneg _ (by decide), Int.emod_lt_of_pos _ (by decide), (((o3.mono (S' := [p]) (by simp)).trans (Oth.put (by simp) hp3)).drop hp), ?_, ?_⟩
          · rw [upd_same, List.map_append]; rfl
          · rw [List.length_append]; simp; omega
        · obtain ⟨x6, s', ds, rfl, t0, t1, o3, hp3, hd3⟩ := hW
          exact ⟨_, _, _, _, ds, rfl, o3, hp3, by omega⟩
  · obtain ⟨x4, x5, x6, x7, ds, rfl, o1, hp1, hds⟩ := hW
    exact ⟨_, rfl, q p H1 ds hp o1 hp1⟩
end
abbrev sSame : Stmt := topS 7
theorem scSame : FnScope ["actual", "expected", "k"] ["actual", "expected"] (defScope sSame) := ⟨rfl, rfl, rfl, by decide +kernel, rfl, by decide +kernel, by decide +kernel⟩
section
variable {P : Program} {w : World} {K : PySem.W.Frag} {mg : Str → Option Value} {base : Heap}
theorem ok_same {f : Addr} {fd : FuncData} {k n : Nat} (F : Fun K "_law_same" "_law_same" sSame f fd)
    (GS : FnOk P w K mg base CX0 k f fd ["actual", "expected"] (spSame n)) (bS : Binds K fd ["actual", "expected"] []) (kS : PySem.W.keepIn K (.ref f) = true) (mS : mg "_law_same" = some (.ref f))
    (m_isinstance : mg "isinstance" = none) (m_tuple : mg "tuple" = none) (m_len : mg "len" = none) (m_range : mg "range" = none) (m_bool : mg "bool" = none) (m_int : mg "int" = none) (m_str : mg "str" = none) :
    FnOk P w K mg base CX0 (k + 1) f fd ["actual", "expected"] (spSame (n + 1)) := by
  refine F.ok scSame (fun vs H Q E h => ?_) (fun cdv A outer s H vs Q E hr h => ?_)
  · obtain ⟨t, v, u, rfl, _⟩ := h
    rfl
  obtain ⟨t, v, u, rfl, hv, hu, hd, q⟩ := h
  have nd := scSame.nd
  refine ⟨_, (pss_cons (ps_if (pt_val (pe_callB call_isi (by rfl) m_isinstance bo_isi (pa_cons (pv 1) (pa_cons (pe_bltn (v := .ty "tuple") (by rfl) m_tuple bo_tuple rfl) pa_nil))))
  (pss_cons (ps_if (PW.pt (pw_or (pt_not (pt_val (pe_callB call_isi (by rfl) m_isinstance bo_isi (pa_cons (pv 0) (pa_cons (pe_bltn (v := .ty "tuple") (by rfl) m_tuple bo_tuple rfl) pa_nil))))) (pw_or1 (pt_cmpR op_ne (pe_callB call_len_seq (by rfl) m_len PySem.boot_len (pa_cons (pv 0) pa_nil)) (pe_callB call_len_seq (by rfl) m_len PySem.boot_len (pa_cons (pv 1) pa_nil)) (nomark _)))))
  (pss_one (ps_ret pe_bl))
  pss_nil)
  (pss_cons (ps_for PassesOwn.never rfl (pi_range1 (by rfl) m_range (pa_cons (pe_callB call_len_seq (by rfl) m_len PySem.boot_len (pa_cons (pv 1) pa_nil)) pa_nil)) (pg_name (i := 2) nd rfl (.inl rfl))
  (pss_one (ps_if (pt_not (pt_val (pe_call GS hr rfl mS kS bS .nil pass0 (pa_cons (pe_ix ix_tup (pv 0) (pv 2) (fun _ _ => rfl)) (pa_cons (pe_ix ix_tup (pv 1) (pv 2) (fun _ _ => rfl)) pa_nil)))))
  (pss_one (ps_ret pe_bl))
  pss_nil)))
  (pss_one (ps_ret pe_bl))))
  pss_nil)
  (pss_cons (ps_if (pt_cmpR op_isN (pv 1) pe_non (nomark _))
  (pss_one (ps_ret (pe_cmpR op_isN (pv 0) pe_non (nomark _))))
  pss_nil)
  (pss_cons (ps_if (pt_val (pe_callB call_isi (by rfl) m_isinstance bo_isi (pa_cons (pv 1) (pa_cons (pe_bltn (v := .ty "bool") (by rfl) m_bool bo_bool rfl) pa_nil))))
  (pss_one (ps_ret (pe_and (pe_callB call_isi (by rfl) m_isinstance bo_isi (pa_cons (pv 0) (pa_cons (pe_bltn (v := .ty "bool") (by rfl) m_bool bo_bool rfl) pa_nil))) (pe_one (pe_cmpR op_eq (pv 0) (pv 1) (nomark _))))))
  pss_nil)
  (pss_cons (ps_if (pt_val (pe_callB call_isi (by rfl) m_isinstance bo_isi (pa_cons (pv 1) (pa_cons (pe_bltn (v := .ty "int") (by rfl) m_int bo_int rfl) pa_nil))))
  (pss_one (ps_ret (pe_and (pe_callB call_isi (by rfl) m_isinstance bo_isi (pa_cons (pv 0) (pa_cons (pe_bltn (v := .ty "int") (by rfl) m_int bo_int rfl) pa_nil))) (pe_and (pe_not (pe_callB call_isi (by rfl) m_isinstance bo_isi (pa_cons (pv 0) (pa_cons (pe_bltn (v := .ty "bool") (by rfl) m_bool bo_bool rfl) pa_nil)))) (pe_one (pe_cmpR op_eq (pv 0) (pv 1) (nomark _)))))))
  pss_nil)
  (pss_one (ps_ret (pe_and (pe_callB call_isi (by rfl) m_isinstance bo_isi (pa_cons (pv 0) (pa_cons (pe_bltn (v := .ty "str") (by rfl) m_str bo_str rfl) pa_nil))) (pe_one (pe_cmpR op_eq (pv 0) (pv 1) (nomark _)))))))))), ?_⟩
  cases hd with
  | non _ =>
    obtain rfl := hv.of_non
    obtain rfl := hu.of_non
    refine ⟨_, rfl, _, _, _, _, false, rfl, .ty "tuple", hu.ty, kit_ty kb_NoneType_tuple, _, rfl, iteF ?_⟩
    refine ⟨_, rfl, rfl, _, rfl, iteT ⟨_, rfl, rfl, ?_⟩⟩
    exact q
  | int _ i =>
    obtain rfl := hv.of_int
    obtain rfl := hu.of_int
    refine ⟨_, rfl, _, _, _, _, false, rfl, .ty "tuple", hu.ty, kit_ty kb_int_tuple, _, rfl, iteF ?_⟩
    refine ⟨_, rfl, rfl, _, rfl, iteF ?_⟩
    refine ⟨_, rfl, _, _, _, _, false, rfl, .ty "bool", hu.ty, kit_ty kb_int_bool, _, rfl, iteF ?_⟩
    refine ⟨_, rfl, _, _, _, _, true, rfl, .ty "int", hu.ty, kit_ty kb_int_int, _, rfl, iteT ?_⟩
    refine ⟨_, rfl, _, _, _, _, true, rfl, .ty "int", hu.ty, kit_ty kb_int_int, _, rfl, iteT ?_⟩
    refine ⟨_, rfl, _, _, _, _, false, rfl, .ty "bool", hu.ty, kit_ty kb_int_bool, _, rfl, _, rfl, iteT ?_⟩
    refine ⟨_, rfl, _, rfl, rfl, ?_⟩
    rw [decide_eq_true rfl]
    exact q
  | str _ x =>
    obtain rfl := hv.of_str
    obtain rfl := hu.of_str
    refine ⟨_, rfl, _, _, _, _, false, rfl, .ty "tuple", hu.ty, kit_ty kb_str_tuple, _, rfl, iteF ?_⟩
    refine ⟨_, rfl, rfl, _, rfl, iteF ?_⟩
    refine ⟨_, rfl, _, _, _, _, false, rfl, .ty "bool", hu.ty, kit_ty kb_str_bool, _, rfl, iteF ?_⟩
    refine ⟨_, rfl, _, _, _, _, false, rfl, .ty "int", hu.ty, kit_ty kb_str_int, _, rfl, iteF ?_⟩
    refine ⟨_, rfl, _, _, _, _, true, rfl, .ty "str", hu.ty, kit_ty kb_str_str, _, rfl, iteT ?_⟩
    refine ⟨_, rfl, _, rfl, rfl, ?_⟩
    rw [decide_eq_true rfl]
    exact q
  | tup _ ts hz hts =>
    obtain ⟨a, xs, rfl, ea, pa⟩ := hv.inv
    obtain ⟨b, ys, rfl, eb, pb⟩ := hu.inv
    have la := (paired_get pa).1
    have lb := (paired_get pb).1
    refine ⟨_, rfl, _, _, _, _, true, rfl, .ty "tuple", hu.ty, kit_ty kb_tuple_tuple, _, rfl, iteT ?_⟩
    refine ⟨_, rfl, _, _, _, _, true, rfl, .ty "tuple", hv.ty, kit_ty kb_tuple_tuple, _, rfl, iteF ?_⟩
    refine ⟨_, rfl, a, _, rfl, .inr (SqT.of ea), _, rfl, b, _, rfl, .inr (SqT.of eb), rfl, _, rfl, ?_⟩
    rw [la, lb, decide_eq_true rfl]
    refine iteF ?_
    refine ⟨_, rfl, b, _, rfl, .inr (SqT.of eb), _, rfl, by omega, by omega, for_range (lo := 0) (n := ((ys.length : Nat) : Int).toNat)
      (fun i σ H1 => H1 = H ∧ ∃ x2 : Option V, σ = [some (.ref a), some (.ref b), x2]) ⟨rfl, none, rfl⟩ (fun i σ H1 hi hW => ?_) (fun σ H1 hW => ?_)⟩
    · obtain ⟨rfl, x2, rfl⟩ := hW
      have hi1 : i < ts.length := by omega
      have ga : xs[i]? = some xs[i] := List.getElem?_eq_getElem (by omega)
      have gb : ys[i]? = some ys[i] := List.getElem?_eq_getElem (by omega)
      have gt : ts[i]? = some ts[i] := List.getElem?_eq_getElem hi1
      refine ⟨_, rfl, _, rfl, a, _, (i : Int), _, rfl, by rw [Int.zero_add], SqT.of ea, atI_nat ga, _, rfl, _, rfl, b, _, (i : Int), _, rfl, by rw [Int.zero_add], SqT.of eb, atI_nat gb, ?_⟩
      refine ⟨ts[i], _, _, rfl, (paired_get pa).2 i _ _ gt ga, (paired_get pb).2 i _ _ gt gb, hts _ (List.getElem_mem hi1), _, rfl, ?_⟩
      exact iteF ⟨rfl, _, rfl⟩
    · obtain ⟨rfl, x2, rfl⟩ := hW
      exact q
end
abbrev sBox : Stmt := topS 5
theorem scBox : FnScope ["script", "first", "last"] ["script", "first", "last"] (defScope sBox) := ⟨rfl, rfl, rfl, by decide +kernel, rfl, by decide +kernel, by decide +kernel⟩
section
variable {P : Program} {w : World} {K : PySem.W.Frag} {mg : Str → Option Value} {base : Heap}
theorem ok_box {f fD : Addr} {fd dD : FuncData} {k : Nat} (F : Fun K "_law_box" "_law_box" sBox f fd)
    (GD : FnOk P w K mg base CX0 k fD dD ["script", "first", "last"] (spDigits K)) (bD : Binds K dD ["script", "first", "last"] []) (kD : PySem.W.keepIn K (.ref fD) = true) (mD : mg "_law_digits" = some (.ref fD)) :
    FnOk P w K mg base CX0 (k + 1) f fd ["script", "first", "last"] (spBoxY K) := by
  refine F.ok scBox (fun vs H Q E h => ?_) (fun cdv A outer s H vs Q E' hr h => ?_)
  · obtain ⟨a, ns, i, j, rfl, _⟩ := h
    rfl
  obtain ⟨a, ns, i, j, rfl, hS, hi, hj, q⟩ := h
  have nd := scBox.nd
  refine ⟨_, (pss_one (ps_ret (pe_lst (pa_cons (pe_call GD hr rfl mD kD bD .nil pass0 (pa_cons (pv 0) (pa_cons (pv 1) (pa_cons (pv 2) pa_nil)))) (pa_cons pe_int (pa_cons pe_int (pa_cons pe_int (pa_cons pe_int (pa_cons (pe_lst pa_nil) pa_nil))))))))), ?_⟩
  refine ⟨_, rfl, _, rfl, _, rfl, a, ns, i, j, rfl, hS, hi, hj, fun d H1 ds hd o1 e1 => ⟨sz, fun pl hp => ⟨sz, fun b hb => ?_⟩⟩⟩
  have ndp : d ≠ pl := ne_of_none e1 hp
  have o2 := Oth.new (S := []) (o := .lst []) hp
  have ndb : d ≠ b := ne_of_none (o2.keep d _ (by simp) e1) hb
  have npb : pl ≠ b := ne_of_none (upd_same : (upd H1 pl (.lst [])) pl = _) hb
  have o3 := Oth.new (S := []) (o := .lst [.ref d, .int 0, .int 0, .int 0, .int 0, .ref pl]) hb
  refine q b d pl _ ?_ (o1.trans (o2.trans o3)) ⟨⟨0, ds, 0, upd_same, o3.keep d _ (by simp) (o2.keep d _ (by simp) e1)⟩, o3.keep pl _ (by simp) upd_same, ndp.symm⟩
  cases e : H b with
  | none => rfl
  | some o => rw [o2.keep b _ (by simp) (o1.keep b _ (by simp) e)] at hb; cases hb
end
abbrev sNInit : Stmt := inClass (topS 1) 0
abbrev sNumber : Stmt := inClass (topS 1) 1
abbrev sKeep : Stmt := inClass (topS 1) 2
theorem scNInit : FnScope ["self"] ["self"] (defScope sNInit) := ⟨rfl, rfl, rfl, by decide +kernel, rfl, by decide +kernel, by decide +kernel⟩
theorem scNumber : FnScope ["self", "path"] ["self", "path"] (defScope sNumber) := ⟨rfl, rfl, rfl, by decide +kernel, rfl, by decide +kernel, by decide +kernel⟩
theorem scKeep : FnScope ["self", "paths", "path"] ["self", "paths"] (defScope sKeep) := ⟨rfl, rfl, rfl, by decide +kernel, rfl, by decide +kernel, by decide +kernel⟩
section
variable {P : Program} {w : World} {K : PySem.W.Frag} {mg : Str → Option Value} {base : Heap}
theorem ok_ninit {f C : Addr} {fd : FuncData} (F : Fun K "__init__" "Numbers.__init__" sNInit f fd) (TC : Cls K C) (n1 : NoAttr K C "given") (n2 : NoAttr K C "many") :
    FnOk P w K mg base CX0 1 f fd ["self"] (spNInit P w C) := by
  refine F.ok scNInit (fun vs H Q E h => ?_) (fun cdv A outer s H vs Q E' hr h => ?_)
  · obtain ⟨p, dx, rfl, _⟩ := h
    rfl
  obtain ⟨p, dx, rfl, hp, q⟩ := h
  have nd := scNInit.nd
  refine ⟨_, (pss_cons (ps_fld (pv 0) pe_dnewN rfl)
  (pss_one (ps_fld (pv 0) pe_int rfl))), ?_⟩
  intro d H1 hd o1 hd1 dn
  have npd : p ≠ d := ne_of_none hp hd
  have hp1 := o1.keep p _ (by simp) hp
  have o2 : Oth [p] H1 _ := Oth.ins (o := .ins C dx [("given", .ref d)]) (List.mem_singleton.mpr rfl) hp1
  refine ⟨_, rfl, p, C, dx, [], rfl, hp1, TC, n1, (by decide), ?_⟩
  rw [putF_nil]
  refine ⟨_, rfl, p, C, dx, _, rfl, upd_same, TC, n2, (by show 1 < 1000; decide), ?_⟩
  rw [putF_tl ne_gm, putF_nil]
  have o3 : Oth [p] _ (upd (upd H1 p (.ins C dx [("given", .ref d)])) p (.ins C dx [("given", .ref d), ("many", .int 0)])) := Oth.ins (List.mem_singleton.mpr rfl) upd_same
  exact q d _ hd ⟨⟨dx, upd_same⟩, (dn.oth o2 (by simp [npd.symm])).oth o3 (by simp [npd.symm])⟩ ((o1.mono (by simp)).trans (o2.trans o3))
theorem ok_number {f C : Addr} {fd : FuncData} (F : Fun K "number" "Numbers.number" sNumber f fd) (TC : Cls K C) (n1 : NoAttr K C "given") (n2 : NoAttr K C "many") :
    FnOk P w K mg base CX0 1 f fd ["self", "path"] (spNumber P w C) := by
  refine F.ok scNumber (fun vs H Q E h => ?_) (fun cdv A outer s H vs Q E' hr h => ?_)
  · obtain ⟨p, d, kvs, n, qq, vp, rfl, _⟩ := h
    rfl
  obtain ⟨p, d, kvs, n, qq, vp, rfl, hN, tp, lk, q⟩ := h
  have nd := scNumber.nd
  have hu20 := Room.u20 hr
  refine ⟨_, (pss_cut (ps_if (pt_cmpR (op_notInN hu20) (pv 1) (pe_fld (pv 0) rfl) (by rfl))
  (pss_cons (ps_asg (pe_fld (pv 0) rfl) (pg_sub (pe_fld (pv 0) rfl) (pv 1) (set_nest hu20)))
  (pss_one (ps_fldaug (pv 0) pe_int in_add)))
  pss_nil)
  (pss_one (ps_ret (pe_dN (P := P) (w := w) rfl rfl hu20 (pe_fld (pv 0) rfl) (pv 1) (fun _ _ => rfl))))), ?_⟩
  have npd := hN.npd
  obtain ⟨b, rfl, kb⟩ := path_key tp
  obtain ⟨dx, hp⟩ := hN.ob
  refine ⟨fun σ H1 => ∃ (r : V) (kvs' : List (NestedKey × V)) (n' : Nat), σ = [some (.ref p), some (.ref b)] ∧ NumStep kvs kvs' n n' (pathT qq).nk r ∧ valV kvs' (pathT qq).nk = some r ∧ NumAt P w C H1 p d kvs' n' ∧ Oth [p, d] H H1, ?_, ?_⟩
  · refine ⟨_, rfl, _, rfl, p, C, dx, _, _, rfl, hp, TC, n1, lkp_hd, b, d, _, kvs, rfl, rfl, kb, hN.dn, ?_⟩
    cases e : valV kvs (pathT qq).nk with
    | some r =>
      refine ⟨_, rfl, iteF ?_⟩
      exact ⟨r, kvs, n, rfl, .inl ⟨e, rfl, rfl⟩, e, hN, Oth.refl⟩
    | none =>
      refine ⟨_, rfl, iteT ?_⟩
      refine ⟨_, rfl, p, C, dx, _, _, rfl, hp, TC, n2, (by rw [lkp_tl ne_mg, lkp_hd]), _, rfl, p, C, dx, _, _, rfl, hp, TC, n1, lkp_hd, _, rfl, d, b, _, kvs, rfl, rfl, kb, hN.dn, Nat.lt_of_le_of_lt lk (by decide), fun H1 o1 dn1 => ?_⟩
      have hp1 := o1.keep p _ (by simp [npd]) hp
      refine ⟨_, rfl, p, C, dx, _, _, rfl, hp1, TC, n2, (by rw [lkp_tl ne_mg, lkp_hd]), _, _, rfl, rfl, dx, _, hp1, (by show 2 < 1000; decide), ?_⟩
      rw [putF_tl ne_gm, putF_hd]
      have o2 : Oth [p] H1 (upd H1 p (.ins C dx [("given", .ref d), ("many", .int ((n : Int) + 1))])) := Oth.ins (List.mem_singleton.mpr rfl) hp1
      refine ⟨.int (n : Int), _, n + 1, rfl, .inr ⟨e, rfl, rfl, rfl⟩, by rw [valV_put, if_pos rfl], ⟨⟨dx, by rw [upd_same]; rfl⟩, dn1.oth o2 (by simp [npd.symm])⟩, (o1.mono (by simp)).trans (o2.mono (by simp))⟩
  · rintro σ H1 ⟨r, kvs', n', rfl, st, ev, hN1, o1⟩
    obtain ⟨dx1, hp1⟩ := hN1.ob
    exact ⟨_, rfl, p, C, dx1, _, _, rfl, hp1, TC, n1, lkp_hd, _, rfl, b, d, _, kvs', r, rfl, rfl, (path_key (tp.oth o1)).elim fun b' hb => by obtain ⟨e, k⟩ := hb; cases e; exact k, hN1.dn, ev, q r kvs' n' H1 st hN1 o1⟩
theorem ok_keep {f C : Addr} {fd : FuncData} (F : Fun K "keep" "Numbers.keep" sKeep f fd) (TC : Cls K C) (n1 : NoAttr K C "given") :
    FnOk P w K mg base CX0 1 f fd ["self", "paths"] (spKeep P w C) := by
  refine F.ok scKeep (fun vs H Q E h => ?_) (fun cdv A outer s H vs Q E' hr h => ?_)
  · obtain ⟨p, d, kvs, n, qs, vt, rfl, _⟩ := h
    rfl
  obtain ⟨p, d, kvs, n, qs, vt, rfl, hN, tt, lq, q⟩ := h
  have nd := scKeep.nd
  have hu20 := Room.u20 hr
  refine ⟨_, (pss_one (ps_fld (pv 0) (pe_dcNI (own := [("path", 2)]) (g := gName 2) hu20 rfl nd (pi_tup (pv 1)) (blkOk_by (N := ["self", "paths", "path"]) (sc := defScope sKeep) (by decide +kernel)) (fun _ _ _ _ _ => (pg_name (i := 2) nd rfl (.inl rfl))) (fun _ _ _ _ _ => pts_one (pt_cmpR (op_inN2 (P := P) (w := w) rfl rfl hu20) (pv 2) (pe_fldK (K := K) rfl (pv 0) rfl) (by rfl))) (fun _ _ _ _ _ => (pv 2)) (fun _ _ _ _ _ => (pe_dN (P := P) (w := w) rfl rfl hu20 (pe_fldK (K := K) rfl (pv 0) rfl) (pv 2) (fun _ _ => rfl)))) rfl)), ?_⟩
  obtain ⟨at', xs, rfl, ea, pa⟩ := tt.inv
  have lx : xs.length = qs.length := by rw [(paired_get pa).1, List.length_map]
  obtain ⟨dx, hp⟩ := hN.ob
  refine ⟨_, rfl, at', rfl, ⟨xs, SqT.of ea⟩, fun D H2 hD o2 dn0 => dcNI_tup (xs := xs)
    (fun j H3 => ∃ kvs', DN P w H3 D kvs' ∧ kvs'.length ≤ j ∧ (∀ z, valV kvs' (pathT z).nk = if z ∈ qs.take j then valV kvs (pathT z).nk else none) ∧ Oth [D] H H3)
    ⟨[], dn0, Nat.le_refl _, fun z => by rw [List.take_zero, if_neg (by simp)]; rfl, o2.mono (by simp)⟩ (fun j H3 _ hW => ?_) (fun j x H3 hx hW => ?_) (fun H3 hW => ?_)⟩
  · obtain ⟨_, _, _, _, o3⟩ := hW
    exact SqT.of (o3.tup _ _ ea)
  · obtain ⟨kvs', dn, lk', ev, o3⟩ := hW
    have hj : j < qs.length := by rw [← lx]; exact (List.getElem?_eq_some_iff.mp hx).1
    obtain ⟨it, gi⟩ : ∃ it, qs[j]? = some it := ⟨qs[j], List.getElem?_eq_getElem hj⟩
    have ti : IsT H3 (pathT it) x := ((paired_get pa).2 j _ _ (by rw [List.getElem?_map, gi]; rfl) hx).oth o3
    obtain ⟨b, rfl, kb⟩ := path_key ti
    obtain ⟨npD, ndD⟩ := hN.nep hD
    have hN3 := hN.oth o3 (by simp [npD]) (by simp [ndD])
    have hp3 := o3.keep p _ (by simp [npD]) hp
    refine ⟨rfl, _, rfl, _, rfl, p, C, dx, _, _, rfl, hp3, TC, n1, lkp_hd, b, d, _, kvs, rfl, rfl, kb, hN3.dn, ?_⟩
    have tk : ∀ z, z ∈ qs.take (j + 1) ↔ z ∈ qs.take j ∨ z = it := fun z => by rw [take_snoc gi, List.mem_append, List.mem_singleton]
    cases e : valV kvs (pathT it).nk with
    | none =>
      refine ⟨_, rfl, iteF ?_⟩
      refine ⟨kvs', dn, by omega, fun z => ?_, o3⟩
      rw [ev]
      by_cases h : z ∈ qs.take j
      · rw [if_pos h, if_pos ((tk z).mpr (.inl h))]
      · rw [if_neg h]
        by_cases g : z = it
        · rw [if_pos ((tk z).mpr (.inr g)), g, e]
        · rw [if_neg fun y => ((tk z).mp y).elim h g]
    | some r =>
      refine ⟨_, rfl, iteT ?_⟩
      refine ⟨_, rfl, _, rfl, p, C, dx, _, _, rfl, hp3, TC, n1, lkp_hd, _, rfl, b, d, _, kvs, r, rfl, rfl, kb, hN3.dn, e, ?_⟩
      refine ⟨D, b, _, kvs', rfl, rfl, kb, dn, Nat.lt_of_le_of_lt (by omega : kvs'.length ≤ 100000) (by decide), fun H4 o4 dn4 => ⟨_, dn4, by have := length_putK kvs' (pathT it).nk r; omega, fun z => ?_, o3.trans o4⟩⟩
      rw [valV_put, ev]
      by_cases g : z = it
      · rw [if_pos (path_nk.mpr g), if_pos ((tk z).mpr (.inr g)), g, e]
      · rw [if_neg fun y => g (path_nk.mp y)]
        by_cases h : z ∈ qs.take j
        · rw [if_pos h, if_pos ((tk z).mpr (.inl h))]
        · rw [if_neg h, if_neg fun y => ((tk z).mp y).elim h g]
  · obtain ⟨kvs', dn, lk', ev, o3⟩ := hW
    rw [lx, List.take_length] at ev
    obtain ⟨npD, ndD⟩ := hN.nep hD
    have hp3 := o3.keep p _ (by simp [npD]) hp
    refine ⟨_, rfl, p, C, dx, _, rfl, hp3, TC, n1, (by show 2 < 1000; decide), ?_⟩
    rw [putF_hd]
    have o4 : Oth [p] H3 (upd H3 p (.ins C dx [("given", .ref D), ("many", .int (n : Int))])) := Oth.ins (List.mem_singleton.mpr rfl) hp3
    refine q D kvs' _ hD ⟨⟨dx, upd_same⟩, dn.oth o4 (by simp [npD.symm])⟩ (by omega) ev ((Oth.drop o3 hD).mono (by simp) |>.trans o4)
end
abbrev sLaw : Stmt := topS 8
theorem scLaw : FnScope ["script", "box", "paths", "made", "known", "following", "turn", "kept", "row", "path", "found"] ["script"] (defScope sLaw) := ⟨rfl, rfl, rfl, by decide +kernel, rfl, by decide +kernel, by decide +kernel⟩
section
variable {P : Program} {w : World} {K : PySem.W.Frag} {mg : Str → Option Value} {base : Heap}
theorem ok_law {f fB fR fS fI fN fK C : Addr} {fd dB dR dS dI dN dK : FuncData} {k : Nat} (F : Fun K "law" "law" sLaw f fd)
    (GB : FnOk P w K mg base CX0 (k + 1) fB dB ["script", "first", "last"] (spBoxY K)) (bB : Binds K dB ["script", "first", "last"] []) (kB : PySem.W.keepIn K (.ref fB) = true) (mB : mg "_law_box" = some (.ref fB))
    (GR : FnOk P w K mg base CX0 (k + 1) fR dR ["box", "many"] spDrawY) (bR : Binds K dR ["box", "many"] []) (kR : PySem.W.keepIn K (.ref fR) = true) (mR : mg "_law_draw" = some (.ref fR))
    (GS : FnOk P w K mg base CX0 (k + 1) fS dS ["actual", "expected"] (spSame 40)) (bS : Binds K dS ["actual", "expected"] []) (kS : PySem.W.keepIn K (.ref fS) = true) (mS : mg "_law_same" = some (.ref fS))
    (TC : Cls K C) (MkNi : Mk K C fI) (mNumbers : mg "Numbers" = some (.ref C))
    (GNi : FnOk P w K mg base CX0 k fI dI ["self"] (spNInit P w C)) (bNi : Binds K dI ["self"] [])
    (GNn : FnOk P w K mg base CX0 (k + 1) fN dN ["self", "path"] (spNumber P w C)) (bNn : Binds K dN ["self", "path"] []) (mtNn : Meth K C "number" fN)
    (GNk : FnOk P w K mg base CX0 (k + 1) fK dK ["self", "paths"] (spKeep P w C)) (bNk : Binds K dK ["self", "paths"] []) (mtNk : Meth K C "keep" fK)
    (m_tuple : mg "tuple" = none) (m_range : mg "range" = none) (m_len : mg "len" = none) : FnOk P w K mg base CX0 (k + 2) f fd ["script"] (spLawY K) := by
  refine F.ok scLaw (fun vs H Q E h => ?_) (fun cdv A outer s H vs Q E' hr h => ?_)
  · obtain ⟨a, ns, rfl, _⟩ := h
    rfl
  obtain ⟨a, ns, rfl, hS, h63, q⟩ := h
  have nd := scLaw.nd
  refine ⟨_, (pss_cons (ps_set (i := 1) nd rfl (.inr rfl) (pe_call GB hr rfl mB kB bB .nil pass0 (pa_cons (pv 0) (pa_cons pe_int (pa_cons pe_int pa_nil)))))
  (pss_cons (ps_set (i := 2) nd rfl (.inl rfl) (pe_lst (pl_cons (pl_tup pl_nil (by decide)) (pl_cons (pl_tup (pl_cons (pl_tup (pl_cons pl_str (pl_cons (pl_tup (pl_cons pl_int pl_nil) (by decide)) (pl_cons (pl_tup pl_nil (by decide)) pl_nil))) (by decide)) pl_nil) (by decide)) (pl_cons (pl_tup (pl_cons (pl_tup (pl_cons pl_str (pl_cons (pl_tup (pl_cons pl_int pl_nil) (by decide)) (pl_cons (pl_tup pl_nil (by decide)) pl_nil))) (by decide)) pl_nil) (by decide)) (pl_cons (pl_tup (pl_cons (pl_tup (pl_cons pl_str (pl_cons (pl_tup (pl_cons pl_int pl_nil) (by decide)) (pl_cons (pl_tup (pl_cons pl_int pl_nil) (by decide)) pl_nil))) (by decide)) pl_nil) (by decide)) (pl_cons (pl_tup (pl_cons (pl_tup (pl_cons pl_str (pl_cons (pl_tup (pl_cons pl_int pl_nil) (by decide)) (pl_cons pl_int pl_nil))) (by decide)) pl_nil) (by decide)) (pl_cons (pl_tup (pl_cons (pl_tup (pl_cons pl_str (pl_cons pl_int pl_nil)) (by decide)) pl_nil) (by decide)) pl_nil))))))))
  (pss_cons (ps_set (i := 2) nd rfl (.inl rfl) (pe_op op_cat (pv 2) (pe_lst (pl_cons (pl_tup (pl_cons (pl_tup (pl_cons pl_str (pl_cons pl_int pl_nil)) (by decide)) (pl_cons (pl_tup (pl_cons pl_str (pl_cons (pl_tup (pl_cons pl_int pl_nil) (by decide)) (pl_cons (pl_tup pl_nil (by decide)) pl_nil))) (by decide)) pl_nil)) (by decide)) (pl_cons (pl_tup (pl_cons (pl_tup (pl_cons pl_str (pl_cons (pl_tup (pl_cons pl_int pl_nil) (by decide)) (pl_cons pl_int pl_nil))) (by decide)) (pl_cons (pl_tup (pl_cons pl_str (pl_cons (pl_tup (pl_cons pl_int (pl_cons pl_int pl_nil)) (by decide)) (pl_cons (pl_tup (pl_cons pl_int (pl_cons pl_int pl_nil)) (by decide)) pl_nil))) (by decide)) pl_nil)) (by decide)) pl_nil)))))
  (pss_cons (ps_set (i := 3) nd rfl (.inl rfl) (pe_make0 MkNi GNi hr rfl mNumbers bNi .nil pass0))
  (pss_cons (ps_set (i := 4) nd rfl (.inl rfl) (pe_lst pa_nil))
  (pss_cons (ps_set (i := 5) nd rfl (.inl rfl) pe_int)
  (pss_cons (ps_for PassesOwn.never rfl (pi_range1 (by rfl) m_range (pa_cons (pe_call GR hr rfl mR kR bR .nil pass0 (pa_cons (pv 1) (pa_cons pe_int pa_nil))) pa_nil)) (pg_name (i := 6) nd rfl (.inl rfl))
  (pss_one (ps_if (pt_cmpR op_eq (pe_call GR hr rfl mR kR bR .nil pass0 (pa_cons (pv 1) (pa_cons pe_int pa_nil))) pe_int (nomark _))
  (pss_cons (ps_setLc (i := 7) (own := [("row", 8)]) (g := gName 8) rfl nd rfl rfl (sw_true rfl rfl rfl (by decide +kernel)) (pi_list (pv 4)) (blkOk_by (N := ["script", "box", "paths", "made", "known", "following", "turn", "kept", "row", "path", "found"]) (sc := defScope sLaw) (by decide +kernel)) (fun _ _ _ _ _ => (pg_name (i := 8) nd rfl (.inl rfl))) (fun _ _ _ _ _ => pts_one (pt_cmpR op_eq (pe_call GR hr rfl mR kR bR .nil pass0 (pa_cons (pv 1) (pa_cons pe_int pa_nil))) pe_int (nomark _))) (fun _ _ _ _ _ => (pv 8)))
  (pss_cons (ps_expr (pe_meth (pv 3) TC mtNk GNk hr bNk .nil pass0 (pa_cons (pe_tupleOf (by rfl) m_tuple (pe_lc (own := [("row", 8)]) (g := gName 8) (tt := tYes) rfl nd (pi_list (pv 7)) (blkOk_by (N := ["script", "box", "paths", "made", "known", "following", "turn", "kept", "row", "path", "found"]) (sc := defScope sLaw) (by decide +kernel)) (fun _ _ _ _ _ => (pg_name (i := 8) nd rfl (.inl rfl))) (fun _ _ _ _ _ => pts_nil) (fun _ _ _ _ _ => (pe_ix (r := rIxL K) ix_list (pv 8) pe_int (fun _ _ => rfl))))) pa_nil)))
  (pss_one (ps_set (i := 4) nd rfl (.inl rfl) (pv 7)))))
  (pss_cons (ps_set (i := 9) nd rfl (.inr rfl) (pe_ix ix_list (pv 2) (pe_call GR hr rfl mR kR bR .nil pass0 (pa_cons (pv 1) (pa_cons pe_int pa_nil))) (fun _ _ => rfl)))
  (pss_cons (ps_setLc (i := 10) (own := [("row", 8)]) (g := gName 8) rfl nd rfl rfl (sw_true rfl rfl rfl (by decide +kernel)) (pi_list (pv 4)) (blkOk_by (N := ["script", "box", "paths", "made", "known", "following", "turn", "kept", "row", "path", "found"]) (sc := defScope sLaw) (by decide +kernel)) (fun _ _ _ _ _ => (pg_name (i := 8) nd rfl (.inl rfl))) (fun _ _ _ _ _ => pts_one (pt_cmpR (op_eqT (Room.units65 hr)) (pe_ix (r := rIxL K) ix_list (pv 8) pe_int (fun _ _ => rfl)) (pv 9) (nomark _))) (fun _ _ _ _ _ => (pe_ix (r := rIxL K) ix_list (pv 8) pe_int (fun _ _ => rfl))))
  (pss_cut (ps_if (pt_cmpR op_eq (pe_callB call_len_seq (by rfl) m_len PySem.boot_len (pa_cons (pv 10) pa_nil)) pe_int (nomark _))
  (pss_cons (ps_set (i := 10) nd rfl (.inl rfl) (pe_lst (pa_cons (pv 5) pa_nil)))
  (pss_cons (ps_expr (pe_bm PySem.F.plainAttrs_list PySem.F.slot_list_append PySem.F.type_list_append mt_append (pv 4) (pa_cons (pe_lst (pa_cons (pv 9) (pa_cons (pv 5) pa_nil))) pa_nil)))
  (pss_one (ps_set (i := 5) nd rfl (.inl rfl) (pe_op op_add (pv 5) pe_int)))))
  pss_nil)
  (pss_one (ps_if (pt_not (pt_val (pe_call GS hr rfl mS kS bS .nil pass0 (pa_cons (pe_meth (pv 3) TC mtNn GNn hr bNn .nil pass0 (pa_cons (pv 9) pa_nil)) (pa_cons (pe_ix ix_list (pv 10) pe_int (fun _ _ => rfl)) pa_nil)))))
  (pss_one (ps_ret pe_bl))
  pss_nil))))))))
  (pss_one (ps_ret pe_bl))))))))), ?_⟩
  refine ⟨_, rfl, a, ns, 0, 63, rfl, hS, by omega, by omega, fun b d pl H1 hb o1 bx => ?_⟩
  -- the paths
  refine fun vs1 H2 tv1 o2 => ⟨Nat.le_trans (Nat.le_of_eq (paired_get tv1).1) (by decide), fun p1 hp1 => ?_⟩
  have o3 := Oth.new (S := []) (o := .lst vs1) hp1
  refine ⟨_, rfl, fun vs2 H4 tv2 o4 => ⟨Nat.le_trans (Nat.le_of_eq (paired_get tv2).1) (by decide), fun p2 hp2 => ?_⟩⟩
  have o5 := Oth.new (S := []) (o := .lst vs2) hp2
  have l1 : vs1.length = 6 := (paired_get tv1).1
  have l2 : vs2.length = 2 := (paired_get tv2).1
  have e1 := (o4.trans o5).keep p1 _ (by simp) (upd_same : (upd H2 p1 (.lst vs1)) p1 = _)
  refine ⟨p1, p2, _, _, rfl, rfl, e1, upd_same, Nat.le_trans (by rw [l1, l2]; decide : vs1.length + vs2.length ≤ 8) (by decide), fun pa hpa => ?_⟩
  have pp0 : Paired (IsT (upd H4 p2 (.lst vs2))) (eight.map pathT) (vs1 ++ vs2) := paired_app (paired_oth tv1 (o3.trans (o4.trans o5))) (paired_oth tv2 o5)
  obtain ⟨xs8, exs8⟩ : ∃ xs8, xs8 = vs1 ++ vs2 := ⟨_, rfl⟩
  rw [← exs8] at pp0 ⊢
  have lx8 : xs8.length = 8 := by rw [exs8, List.length_append, l1, l2]
  have o6 := Oth.new (S := []) (o := .lst xs8) hpa
  have o16 := o2.trans (o3.trans (o4.trans (o5.trans o6)))
  have bx1 := bx.oth o16 (by simp) (by simp) (by simp)
  have pp := paired_oth pp0 o6
  have nba : pa ≠ b := ((bx.oth (o2.trans (o3.trans (o4.trans o5))) (by simp) (by simp) (by simp)).nb hpa).symm
  have epa : (upd (upd H4 p2 (.lst vs2)) pa (.lst xs8)) pa = some (.lst xs8) := upd_same
  generalize upd (upd H4 p2 (.lst vs2)) pa (.lst xs8) = H6 at bx1 pp epa
  -- the object
  intro p dx np ndx nex
  refine ⟨p, dx, rfl, upd_same, fun dd H7 hdd N7 o7 => ⟨rfl, ?_⟩⟩
  have o67 : Oth [] H6 H7 := Oth.drop (((Oth.new (S := [p]) ndx).trans (Oth.new (by rw [upd_ne nex.symm]; exact np))).trans o7) np
  refine ⟨sz, fun kn0 hkn => ?_⟩
  have o8 := Oth.new (S := []) (o := .lst []) hkn
  have bx8 := (bx1.oth o67 (by simp) (by simp) (by simp))
  have nbk := bx8.nb hkn
  have J0 : NumJ P w C (upd H7 kn0 (.lst [])) b d pl ⟨0, 0, []⟩ pa p kn0 dd [] 0 [] [] xs8 :=
    ⟨bx8.new hkn, (o67.trans o8).keep _ _ (by simp) epa, paired_oth pp (o67.trans o8), nba, N7.oth o8 (by simp) (by simp), upd_same, nbk.symm, .nil, ne_of_none (o67.keep _ _ (by simp) epa) hkn, ⟨bx8.ndn hkn, bx8.npn hkn⟩⟩
  refine ⟨_, rfl, _, b, d, pl, _, rfl, by decide, J0.bx, fun m H9 m0 m1 bx9 o9 => ⟨m, rfl, by omega, by omega, for_range (lo := 0) (n := m.toNat)
    (fun i σ H10 => ∃ (x6 x7 x8 x9 x10 : Option V) (kn dd' : Addr) (kvs : List (NestedKey × V)) (n : Nat) (ks : List (Path × Nat)) (vs : List V), σ = [some (.ref a), some (.ref b), some (.ref pa), some (.ref p), some (.ref kn), some (.int (n : Int)), x6, x7, x8, x9, x10] ∧
      NumJ P w C H10 b d pl ⟨0, 0, []⟩ pa p kn dd' kvs n ks vs xs8 ∧ KV kvs ks ∧ (ks.map (·.1)).Nodup ∧ ks.length ≤ i ∧ kvs.length ≤ i ∧ ∀ it ∈ ks, PathOk it.1)
    ⟨none, none, none, none, none, kn0, dd, [], 0, [], [], rfl, J0.draw o9 bx9, kv_nil, List.nodup_nil, Nat.le_refl _, Nat.le_refl _, (fun it h => nomatch h)⟩ (fun i σ H10 hi hW => ?_) (fun σ H10 hW => q _)⟩⟩
  obtain ⟨x6, x7, x8, x9, x10, kn, dd', kvs, n, ks, vs, rfl, J, kv, ndk, lks, lkv, kok⟩ := hW
  have lvs : vs.length = ks.length := Paired.len' J.rows
  refine ⟨_, rfl, _, b, d, pl, _, rfl, by decide, J.bx, fun r0 H11 _ _ bx11 o11 => ⟨rfl, _, rfl, ite2 (fun c => ?_) (fun c => ?_)⟩⟩
  · -- some are kept
    have J := J.draw o11 bx11
    refine ⟨_, rfl, kn, rfl, ⟨vs, SqL.of J.kno⟩, fun D hD => lc_list (xs := vs)
      (fun j H12 => ∃ (ks' : List (Path × Nat)) (vs' : List V), H12 D = some (.lst vs') ∧ RowsAt H12 b D ks' vs' ∧ List.Sublist ks' (ks.take j) ∧ NumJ P w C H12 b d pl ⟨0, 0, []⟩ pa p kn dd' kvs n ks vs xs8)
      ⟨[], [], upd_same, .nil, List.Sublist.slnil, J.oth (Oth.new hD)⟩ (fun j H12 _ hW => ?_) (fun j x H12 hx hW => ?_) (fun H12 hW => ?_)⟩
    · obtain ⟨_, _, _, _, _, J12⟩ := hW
      exact SqL.of J12.kno
    · obtain ⟨ks', vs', hD12, rw12, sub, J12⟩ := hW
      have nbD : b ≠ D := J.bx.nb hD
      refine ⟨rfl, _, rfl, _, b, d, pl, _, rfl, by decide, J12.bx, fun r H13 _ _ bx13 o13 => ⟨rfl, _, rfl, ?_⟩⟩
      have J13 := J12.draw o13 bx13
      have hD13 := o13.keep D _ (by simp [nbD.symm]) hD12
      have rw13 := rw12.oth o13 fun z hz => .inl (List.mem_singleton.mp hz)
      obtain ⟨it, gi, rx⟩ := Paired.get' J13.rows hx
      refine ite2 (fun c2 => ?_) (fun c2 => ?_)
      · obtain ⟨r', vp, rfl, er, tp, nrb, nrk⟩ := rx
        have nrD : r' ≠ D := by
          obtain ⟨it0, _, rx0⟩ := Paired.get' J.rows hx
          obtain ⟨r2, _, er2, hr2, _⟩ := rx0
          cases er2
          exact ne_of_none hr2 hD
        have ls : vs'.length ≤ ks.length := by
          rw [Paired.len' rw13]
          exact Nat.le_trans sub.length_le (by rw [List.length_take]; omega)
        have op : Oth [D] H13 (upd H13 D (.lst (vs' ++ [.ref r']))) := Oth.put (by simp) hD13
        refine ⟨_, rfl, vs', hD13, Nat.lt_of_le_of_lt (by omega : vs'.length ≤ 41) (by decide), ks' ++ [it], vs' ++ [.ref r'], upd_same, Paired.snoc (rw13.oth op fun z hz => .inr (.inl (List.mem_singleton.mp hz))) ⟨r', vp, rfl, op.keep _ _ (by simp [nrD]) er, tp.oth op, nrb, nrD⟩, by rw [take_snoc gi]; exact sub.append (List.Sublist.refl _), ?_⟩
        obtain ⟨n1, n2, n3, n4, n5, n6, n7, n8, n9, n10⟩ := J13.ns
        have nlD : ∀ {y : Addr} {o : HO}, (upd H11 D (.lst [])) y = some o → True := fun _ => trivial
        have hne := J.num.nep hD
        refine ⟨J13.bx.oth op (by simp [nbD]) (by simp [J.bx.ndn hD]) (by simp [J.bx.npn hD]), op.keep _ _ (by simp [ne_of_none J.pth hD]) J13.pth, paired_oth J13.pp op, J13.nb, J13.num.oth op (by simp [hne.1]) (by simp [hne.2]), op.keep _ _ (by simp [ne_of_none J.kno hD]) J13.kno, J13.knb, ?_, J13.npk, J13.nkd⟩
        have keepR : ∀ {kz : List (Path × Nat)} {vz : List V}, RowsAt H13 b kn kz vz → (∀ v ∈ vz, v ≠ .ref D) → RowsAt (upd H13 D (.lst (vs' ++ [.ref r']))) b kn kz vz := fun {kz vz} hz => by
          induction hz with
          | nil => intro _; exact .nil
          | cons rz _ ih =>
            intro hn
            obtain ⟨r3, v3, rfl, e3, t3, m3, k3⟩ := rz
            have : r3 ≠ D := fun z => hn _ List.mem_cons_self (by rw [z])
            exact .cons ⟨r3, v3, rfl, op.keep _ _ (by simp [this]) e3, t3.oth op, m3, k3⟩ (ih fun v hv => hn v (List.mem_cons_of_mem _ hv))
        refine keepR J13.rows fun v hv ev => ?_
        obtain ⟨i3, g3⟩ := List.mem_iff_getElem?.mp hv
        obtain ⟨_, _, rx3⟩ := Paired.get' J.rows g3
        obtain ⟨r3, _, e3, h3, _⟩ := rx3
        rw [e3] at ev
        cases ev
        rw [hD] at h3; cases h3
      · exact ⟨ks', vs', hD13, rw13, sub.trans (by rw [take_snoc gi]; exact List.sublist_append_left _ _), J13⟩
    · obtain ⟨ks', vs', hD12, rw12, sub, J12⟩ := hW
      rw [lvs, List.take_length] at sub
      have lk' : ks'.length ≤ ks.length := sub.length_le
      have lv' : vs'.length = ks'.length := Paired.len' rw12
      obtain ⟨dx1, hp12⟩ := J12.num.ob
      have nbD : D ≠ b := (J.bx.nb hD).symm
      refine ⟨_, rfl, p, dx1, _, rfl, hp12, (by rw [lkp_tl ne_kg, lkp_tl ne_km]; rfl), _, rfl, D, rfl, ⟨vs', SqL.of hD12⟩, fun D2 hD2 => lc_list (xs := vs')
        (fun j H13 => ∃ us : List V, H13 D2 = some (.lst us) ∧ us.length = j ∧ Paired (IsT H13) (((ks'.take j).map (·.1)).map pathT) us ∧ Oth [D2] H12 H13)
        ⟨[], upd_same, rfl, .nil, Oth.new hD2⟩ (fun j H13 _ hW => ?_) (fun j x H13 hx hW => ?_) (fun H13 hW => ?_)⟩
      · obtain ⟨_, _, _, _, o13⟩ := hW
        exact SqL.of (o13.keep D _ (by simp [ne_of_none hD12 hD2]) hD12)
      · obtain ⟨us, hu, lu, pu, o13⟩ := hW
        obtain ⟨it, gi, rx⟩ := Paired.get' rw12 hx
        obtain ⟨r', vp, rfl, er, tp, nrb, nrk⟩ := rx
        have er13 := o13.keep r' _ (by simp [ne_of_none er hD2]) er
        have hj : j < ks'.length := (List.getElem?_eq_some_iff.mp gi).1
        have op : Oth [D2] H13 (upd H13 D2 (.lst (us ++ [vp]))) := Oth.put (by simp) hu
        refine ⟨rfl, _, rfl, r', _, _, _, rfl, rfl, SqL.of er13, at0, us, hu, Nat.lt_of_le_of_lt (by omega : us.length ≤ 41) (by decide), us ++ [vp], upd_same, by rw [List.length_append, lu]; rfl, ?_, o13.trans op⟩
        rw [take_snoc gi, List.map_append, List.map_append]
        exact paired_app (paired_oth pu op) (.cons ((tp.oth o13).oth op) .nil)
      · obtain ⟨us, hu, lu, pu, o13⟩ := hW
        rw [lv', List.take_length] at pu
        have o13' := Oth.drop o13 hD2
        have J13 := J12.oth o13'
        refine .inl ⟨D2, _, rfl, SqL.of hu, fun t ht => ?_⟩
        have o14 := Oth.new (S := []) (o := .tup us) ht
        have J14 := J13.oth o14
        refine ⟨p, dd', kvs, n, ks'.map (·.1), _, rfl, J14.num, .mk upd_same (paired_oth pu o14), by rw [List.length_map]; omega, fun d2 kvs' H15 hd2 N15 lk2 ev o15 => ?_⟩
        refine ⟨_, rfl, ?_⟩
        obtain ⟨n1, n2, n3, n4, n5, n6, n7, n8, n9, n10⟩ := J14.ns
        have hD14 := (o13'.trans o14).keep D _ (by simp) hD12
        have rw14 : RowsAt _ b D ks' vs' := rw12.oth (o13'.trans o14) (by simp)
        have hnp := (J14.num.nel hD14).1
        refine ⟨some (.int (0 + (i : Int))), _, x8, x9, x10, D, d2, kvs', n, ks', vs', rfl, ⟨J14.bx.oth o15 (by simp [n1]) (by simp [n3]) (by simp [n5]), o15.keep _ _ (by simp [n7]) J14.pth, paired_oth J14.pp o15, J14.nb, N15, o15.keep _ _ (by simp [hnp]) hD14, nbD, rw14.oth o15 fun z hz => .inr (.inr fun xs e => ?_), ne_of_none J.pth hD, ⟨J.bx.ndn hD, J.bx.npn hD⟩⟩, kv_keep kv sub ndk ev, (sub.map _).nodup ndk, by omega, by rw [List.length_map] at lk2; omega, fun it h => kok it (sub.subset h)⟩
        exact (J14.num.nel e).1 (List.mem_singleton.mp hz)
  · -- one is asked for
    have J := J.draw o11 bx11
    refine ⟨_, rfl, _, rfl, _, b, d, pl, _, rfl, by decide, J.bx, fun r H12 r0' r8 bx12 o12 => ?_⟩
    have J := J.draw o12 bx12
    obtain ⟨j8, rfl⟩ := Int.eq_ofNat_of_zero_le r0'
    have hj8 : j8 < 8 := by omega
    obtain ⟨xq, gq⟩ : ∃ x, xs8[j8]? = some x := ⟨xs8[j8], List.getElem?_eq_getElem (by omega)⟩
    obtain ⟨qp, gp⟩ : ∃ x, eight[j8]? = some x := ⟨eight[j8]'(by show j8 < 8; omega), List.getElem?_eq_getElem _⟩
    have tq : IsT H12 (pathT qp) xq := (paired_get J.pp).2 j8 _ _ (by rw [List.getElem?_map, gp]; rfl) gq
    have qok := eight_ok qp (List.mem_of_getElem? gp)
    refine ⟨pa, xs8, _, xq, rfl, rfl, SqL.of J.pth, atI_nat gq, ?_⟩
    refine ⟨_, rfl, kn, rfl, ⟨vs, SqL.of J.kno⟩, fun D hD => lc_list (xs := vs)
      (fun j H13 => ∃ ns : List Nat, H13 D = some (.lst (ns.map natV)) ∧ ns = ((ks.take j).filter fun it => decide (it.1 = qp)).map (·.2) ∧ Oth [D] H12 H13)
      ⟨[], upd_same, rfl, Oth.new hD⟩ (fun j H13 _ hW => ?_) (fun j x H13 hx hW => ?_) (fun H13 hW => ?_)⟩
    · obtain ⟨_, _, _, o13⟩ := hW
      exact SqL.of (o13.keep kn _ (by simp [ne_of_none J.kno hD]) J.kno)
    · obtain ⟨ns', hD13, ens, o13⟩ := hW
      obtain ⟨it, gi, rx⟩ := Paired.get' J.rows hx
      obtain ⟨r', vp, rfl, er, tp, nrb, nrk⟩ := rx
      have er13 := o13.keep r' _ (by simp [ne_of_none er hD]) er
      have hj : j < ks.length := (List.getElem?_eq_some_iff.mp gi).1
      have itok : (pathT it.1).Eqb := (kok it (List.mem_of_getElem? gi)).eqb
      refine ⟨rfl, _, rfl, r', _, _, _, rfl, rfl, SqL.of er13, at0, _, rfl, pathT it.1, pathT qp, tp.oth o13, tq.oth o13, itok, qok.eqb, _, rfl, ?_⟩
      by_cases he : it.1 = qp
      · refine iteTb (by show decide _ = true; rw [decide_eq_true (path_nk.mpr he)]) ?_
        have op : Oth [D] H13 (upd H13 D (.lst (ns'.map natV ++ [natV it.2]))) := Oth.put (by simp) hD13
        refine ⟨_, rfl, r', _, _, _, rfl, rfl, SqL.of er13, at1, _, hD13, small1000 (by rw [List.length_map, ens, List.length_map]; have := List.length_filter_le (fun it => decide (it.1 = qp)) (ks.take j); rw [List.length_take] at this; omega), ns' ++ [it.2], by rw [List.map_append]; exact upd_same, ?_, o13.trans op⟩
        rw [take_snoc gi, List.filter_append, List.map_append, ← ens, List.filter_cons_of_pos (by simpa using he)]
        rfl
      · refine iteFb (by show decide _ = false; rw [decide_eq_false (fun z => he (path_nk.mp z))]) ?_
        refine ⟨ns', hD13, ?_, o13⟩
        rw [take_snoc gi, List.filter_append, List.map_append, ← ens, List.filter_cons_of_neg (by simpa using he)]
        simp
    · obtain ⟨ns', hD13, ens, o13⟩ := hW
      rw [lvs, List.take_length, filt_lk qp ndk] at ens
      have J := J.oth (Oth.drop o13 hD)
      have tq := tq.oth o13
      have hi41 : i < 41 := by omega
      refine ⟨fun σ H14 => ∃ (x7 x8 : Option V) (n1 m0 : Nat) (ks1 : List (Path × Nat)) (vs1 : List V) (fo : Addr) (r1 : List V), σ = [some (.ref a), some (.ref b), some (.ref pa), some (.ref p), some (.ref kn), some (.int (n1 : Int)), some (.int (0 + (i : Int))), x7, x8, some xq, some (.ref fo)] ∧ NumJ P w C H14 b d pl ⟨0, 0, []⟩ pa p kn dd' kvs n ks1 vs1 xs8 ∧ H14 fo = some (.lst (natV m0 :: r1)) ∧ IsT H14 (pathT qp) xq ∧
        ((lkN ks qp = some m0 ∧ ks1 = ks ∧ n1 = n) ∨ (lkN ks qp = none ∧ m0 = n ∧ ks1 = ks ++ [(qp, n)] ∧ n1 = n + 1)), ?_, ?_⟩
      · refine ⟨_, rfl, D, _, rfl, .inl (SqL.of hD13), rfl, _, rfl, ?_⟩
        cases elk : lkN ks qp with
        | some m0 =>
          rw [elk] at ens
          subst ens
          refine iteF ?_
          exact ⟨_, _, n, m0, ks, vs, D, [], rfl, J, hD13, tq, .inl ⟨rfl, rfl, rfl⟩⟩
        | none =>
          rw [elk] at ens
          subst ens
          refine iteT ?_
          refine ⟨_, rfl, sz, fun fo hfo => ?_⟩
          have p1 := Oth.new (S := []) (o := .lst [.int (n : Int)]) hfo
          have J1 := J.oth p1
          refine ⟨_, rfl, .inl ⟨rfl, _, SqL.of J1.kno⟩, _, rfl, _, rfl, sz, fun r hr' => ?_⟩
          have p2 := Oth.new (S := []) (o := .lst [xq, .int (n : Int)]) hr'
          have J2 := J1.oth p2
          have nrb := (J1.bx.nb hr').symm
          have nrk : r ≠ kn := (ne_of_none J1.kno hr').symm
          refine ⟨kn, _, _, rfl, rfl, J2.kno, Nat.lt_of_le_of_lt (by omega : vs.length ≤ 41) (by decide), ?_⟩
          have J3 := J2.more (q := qp) (m := n) upd_same ((tq.oth p1).oth p2) nrb nrk
          have nfk : fo ≠ kn := (ne_of_none J.kno hfo).symm
          refine ⟨_, rfl, _, _, rfl, rfl, ?_⟩
          have op : Oth [kn] _ (upd (upd (upd H13 fo (.lst [.int (n : Int)])) r (.lst [xq, .int (n : Int)])) kn (.lst (vs ++ [.ref r]))) := Oth.put (by simp) J2.kno
          exact ⟨_, _, n + 1, n, _, _, fo, [], rfl, J3, op.keep _ _ (by simp [nfk]) (p2.keep _ _ (by simp) upd_same), ((tq.oth p1).oth p2).oth op, .inr ⟨rfl, rfl, rfl, rfl⟩⟩
      · rintro σ H14 ⟨x7', x8', n1, m0, ks1, vs1, fo, r1, rfl, J1, hfo, tq1, alt⟩
        obtain ⟨dx1, hp14⟩ := J1.num.ob
        refine ⟨_, rfl, p, dx1, _, rfl, hp14, (by rw [lkp_tl ne_ng, lkp_tl ne_nm]; rfl), _, rfl, p, dd', kvs, n, qp, xq, rfl, J1.num, tq1, by omega, fun r kvs' n' H15 st N15 o15 => ?_⟩
        have J2 := J1.step o15 N15
        have hfo15 := o15.keep fo _ (by have := J1.num.nel hfo; simp [this.1, this.2]) hfo
        have hh : r = natV m0 ∧ n1 = n' ∧ KV kvs' ks1 ∧ (ks1.map (·.1)).Nodup ∧ ks1.length ≤ i + 1 ∧ kvs'.length ≤ i + 1 ∧ ∀ it ∈ ks1, PathOk it.1 := by
          have kq := kv qp
          rcases alt with ⟨a1, a2, a3⟩ | ⟨a1, a2, a3, a4⟩
          · rw [a1] at kq
            rcases st with ⟨s1, s2, s3⟩ | ⟨s1, s2, s3, s4⟩
            · rw [s1] at kq
              exact ⟨Option.some.inj kq, by rw [a3, s3], by rw [s2, a2]; exact kv, by rw [a2]; exact ndk, by rw [a2]; omega, by rw [s2]; omega, by rw [a2]; exact kok⟩
            · rw [s1] at kq; cases kq
          · rw [a1] at kq
            rcases st with ⟨s1, s2, s3⟩ | ⟨s1, s2, s3, s4⟩
            · rw [s1] at kq; cases kq
            · refine ⟨by rw [s2, a2]; rfl, by rw [a4, s4], by rw [s3, a3]; exact kv_put kv a1, ?_, by rw [a3, List.length_append]; simp; omega, by rw [s3]; have := length_putK kvs (pathT qp).nk (.int (n : Int)); omega, fun it h => by rw [a3] at h; exact (List.mem_append.mp h).elim (kok it) fun z => by rw [List.mem_singleton.mp z]; exact qok⟩
              rw [a3, List.map_append]
              exact List.nodup_append.mpr ⟨ndk, by simp, fun x hx y hy => by rw [List.mem_singleton.mp hy]; intro e; exact lkN_not a1 (by rw [← show x = qp from e]; exact hx)⟩
        obtain ⟨rfl, rfl, kv', nd', lk', lkv', kok'⟩ := hh
        refine ⟨_, rfl, fo, _, _, _, rfl, rfl, SqL.of hfo15, at0, T.int (m0 : Int), _, _, rfl, .int _, .int _, .int 39 _, _, rfl, iteF ?_⟩
        exact ⟨_, _, _, _, _, kn, dd', kvs', n1, ks1, vs1, rfl, J2, kv', nd', lk', lkv', kok'⟩
end
theorem fn_none {P : Program} {w : World} {K : PySem.W.Frag} {mg : Str → Option Value} {base : Heap} {f : Addr} {fd : FuncData} {ps : List Str} {k : Nat} {sp : Sp} (no : ∀ vs H Q E, ¬ sp vs H Q E) : FnOk P w K mg base CX0 k f fd ps sp :=
  ⟨fun vs H Q E h => absurd h (no vs H Q E), fun A outer s H args us vs Q E _ _ _ _ h => absurd h (no vs H Q E)⟩
section
variable {P : Program} {w : World} {K : PySem.W.Frag} {mg : Str → Option Value} {base : Heap}
theorem all_same {f : Addr} {fd : FuncData} (F : Fun K "_law_same" "_law_same" sSame f fd) (bS : Binds K fd ["actual", "expected"] []) (kS : PySem.W.keepIn K (.ref f) = true) (mS : mg "_law_same" = some (.ref f))
    (m_isinstance : mg "isinstance" = none) (m_tuple : mg "tuple" = none) (m_len : mg "len" = none) (m_range : mg "range" = none) (m_bool : mg "bool" = none) (m_int : mg "int" = none) (m_str : mg "str" = none) :
    ∀ n : Nat, FnOk P w K mg base CX0 n f fd ["actual", "expected"] (spSame n)
  | 0 => fn_none fun vs H Q E h => by obtain ⟨t, v, u, _, _, _, h, _⟩ := h; cases h
  | n + 1 => ok_same F (all_same F bS kS mS m_isinstance m_tuple m_len m_range m_bool m_int m_str n) bS kS mS m_isinstance m_tuple m_len m_range m_bool m_int m_str
end
theorem all_mk {l : PySem.W.OpenLaw} {w : World} {K : PySem.W.Frag} {h : Heap} {mg : Str → Option Value} {fa fC fD fR fS fB fw fNi fNn fNk CN : Addr} (X : K.In h) (G : h.Ns mainGlobals mg) (hfa : mg "law" = some (.ref fa))
    {odC anC odD anD odR anR odS anS odB anB odw anw odNi anNi odNn anNn odNk anNk : Option Addr} {slC slD slR slS slB slw slNi slNn slNk : Array (Option Value)} {ocC kVC dcC pmC cdC ctC ocD kVD dcD pmD cdD ctD ocR kVR dcR pmR cdR ctR ocS kVS dcS pmS cdS ctS ocB kVB dcB pmB cdB ctB ocw kVw dcw pmw cdw ctw ocNi kVNi dcNi pmNi cdNi ctNi ocNn kVNn dcNn pmNn cdNn ctNn ocNk kVNk dcNk pmNk cdNk ctNk : Value}
    (aC : PySem.W.nsIn K mainGlobals "_law_cell" = some (some (.ref fC))) (lC : K.lookup fC = some ⟨ocC, odC, .func (PySem.W.fnOf "_law_cell" "_law_cell" (defArgs sCell) (defBody sCell) (defScope sCell) .none kVC dcC pmC anC cdC ctC), slC⟩) (cC : PySem.W.codeIn K cdC "_law_cell" = true) (kC : PySem.W.keepIn K (.ref fC) = true)
    (aD : PySem.W.nsIn K mainGlobals "_law_digits" = some (some (.ref fD))) (lD : K.lookup fD = some ⟨ocD, odD, .func (PySem.W.fnOf "_law_digits" "_law_digits" (defArgs sDigits) (defBody sDigits) (defScope sDigits) .none kVD dcD pmD anD cdD ctD), slD⟩) (cD : PySem.W.codeIn K cdD "_law_digits" = true) (kD : PySem.W.keepIn K (.ref fD) = true)
    (aR : PySem.W.nsIn K mainGlobals "_law_draw" = some (some (.ref fR))) (lR : K.lookup fR = some ⟨ocR, odR, .func (PySem.W.fnOf "_law_draw" "_law_draw" (defArgs sDraw) (defBody sDraw) (defScope sDraw) .none kVR dcR pmR anR cdR ctR), slR⟩) (cR : PySem.W.codeIn K cdR "_law_draw" = true) (kR : PySem.W.keepIn K (.ref fR) = true)
    (aS : PySem.W.nsIn K mainGlobals "_law_same" = some (some (.ref fS))) (lS : K.lookup fS = some ⟨ocS, odS, .func (PySem.W.fnOf "_law_same" "_law_same" (defArgs sSame) (defBody sSame) (defScope sSame) .none kVS dcS pmS anS cdS ctS), slS⟩) (cS : PySem.W.codeIn K cdS "_law_same" = true) (kS : PySem.W.keepIn K (.ref fS) = true)
    (aB : PySem.W.nsIn K mainGlobals "_law_box" = some (some (.ref fB))) (lB : K.lookup fB = some ⟨ocB, odB, .func (PySem.W.fnOf "_law_box" "_law_box" (defArgs sBox) (defBody sBox) (defScope sBox) .none kVB dcB pmB anB cdB ctB), slB⟩) (cB : PySem.W.codeIn K cdB "_law_box" = true) (kB : PySem.W.keepIn K (.ref fB) = true)
    (aw : PySem.W.nsIn K mainGlobals "law" = some (some (.ref fw))) (lw : K.lookup fw = some ⟨ocw, odw, .func (PySem.W.fnOf "law" "law" (defArgs sLaw) (defBody sLaw) (defScope sLaw) .none kVw dcw pmw anw cdw ctw), slw⟩) (cw : PySem.W.codeIn K cdw "law" = true) (kw : PySem.W.keepIn K (.ref fw) = true)
    (aNi : PySem.W.findIn K (.ref CN) "__init__" = some (some (.ref fNi))) (iNi : PySem.W.isFn K (.ref fNi) = true) (lNi : K.lookup fNi = some ⟨ocNi, odNi, .func (PySem.W.fnOf "__init__" "Numbers.__init__" (defArgs sNInit) (defBody sNInit) (defScope sNInit) .none kVNi dcNi pmNi anNi cdNi ctNi), slNi⟩) (cNi : PySem.W.codeIn K cdNi "Numbers.__init__" = true) (kNi : PySem.W.keepIn K (.ref fNi) = true)
    (aNn : PySem.W.findIn K (.ref CN) "number" = some (some (.ref fNn))) (iNn : PySem.W.isFn K (.ref fNn) = true) (lNn : K.lookup fNn = some ⟨ocNn, odNn, .func (PySem.W.fnOf "number" "Numbers.number" (defArgs sNumber) (defBody sNumber) (defScope sNumber) .none kVNn dcNn pmNn anNn cdNn ctNn), slNn⟩) (cNn : PySem.W.codeIn K cdNn "Numbers.number" = true) (kNn : PySem.W.keepIn K (.ref fNn) = true)
    (aNk : PySem.W.findIn K (.ref CN) "keep" = some (some (.ref fNk))) (iNk : PySem.W.isFn K (.ref fNk) = true) (lNk : K.lookup fNk = some ⟨ocNk, odNk, .func (PySem.W.fnOf "keep" "Numbers.keep" (defArgs sKeep) (defBody sKeep) (defScope sKeep) .none kVNk dcNk pmNk anNk cdNk ctNk), slNk⟩) (cNk : PySem.W.codeIn K cdNk "Numbers.keep" = true) (kNk : PySem.W.keepIn K (.ref fNk) = true)
    (aCN : PySem.W.nsIn K mainGlobals "Numbers" = some (some (.ref CN))) (pgN : PySem.W.plainGet K CN Str.empty = true) (hdN : PySem.W.hasDictIn K CN = true) (poN : PySem.W.plainOver K CN = true) (saN : PySem.W.findIn K (.ref CN) "__setattr__" = some (some (.builtin "object.__setattr__"))) (mkN : PySem.W.makesIn K CN = true) (kCN : PySem.W.keepIn K (.ref CN) = true)
    (nN_given : PySem.W.findIn K (.ref CN) "given" = some none)
    (nN_many : PySem.W.findIn K (.ref CN) "many" = some none)
    (z_len : PySem.W.nsIn K mainGlobals "len" = some none)
    (z_range : PySem.W.nsIn K mainGlobals "range" = some none)
    (z_int : PySem.W.nsIn K mainGlobals "int" = some none)
    (z_isinstance : PySem.W.nsIn K mainGlobals "isinstance" = some none)
    (z_tuple : PySem.W.nsIn K mainGlobals "tuple" = some none)
    (z_bool : PySem.W.nsIn K mainGlobals "bool" = some none)
    (z_str : PySem.W.nsIn K mainGlobals "str" = some none) :
    ∃ fd : FuncData, (∀ (s : Shared) (v : Value), BindsTo s fd ⟨[v], []⟩ [("script", v)]) ∧ ∀ base : Heap, K.In base → base.Ns mainGlobals mg → FnOk l.prog w K mg base CX0 42 fa fd ["script"] (spLawY K) := by
  have e := hfa.symm.trans (PySem.W.mg_of X G aw)
  cases e
  have FC := fun_mk (st := sCell) lC cC kC
  have mC := PySem.W.mg_of X G aC
  have bC := FC.binds (ps := ["script", "k"]) fun _ _ _ _ _ _ us hl => match us, hl with | [_, _], _ => rfl
  have FD := fun_mk (st := sDigits) lD cD kD
  have mD := PySem.W.mg_of X G aD
  have bD := FD.binds (ps := ["script", "first", "last"]) fun _ _ _ _ _ _ us hl => match us, hl with | [_, _, _], _ => rfl
  have FR := fun_mk (st := sDraw) lR cR kR
  have mR := PySem.W.mg_of X G aR
  have bR := FR.binds (ps := ["box", "many"]) fun _ _ _ _ _ _ us hl => match us, hl with | [_, _], _ => rfl
  have FS := fun_mk (st := sSame) lS cS kS
  have mS := PySem.W.mg_of X G aS
  have bS := FS.binds (ps := ["actual", "expected"]) fun _ _ _ _ _ _ us hl => match us, hl with | [_, _], _ => rfl
  have FB := fun_mk (st := sBox) lB cB kB
  have mB := PySem.W.mg_of X G aB
  have bB := FB.binds (ps := ["script", "first", "last"]) fun _ _ _ _ _ _ us hl => match us, hl with | [_, _, _], _ => rfl
  have Fw := fun_mk (st := sLaw) lw cw kw
  have mw := PySem.W.mg_of X G aw
  have FNi := fun_mk (st := sNInit) lNi cNi kNi
  have mtNi : Meth K CN "__init__" fNi := ⟨aNi, iNi, kNi⟩
  have MkNi : Mk K CN fNi := ⟨mkN, aNi, iNi, kCN⟩
  have bNi := FNi.binds (ps := ["self"]) fun _ _ _ _ _ _ us hl => match us, hl with | [_], _ => rfl
  have FNn := fun_mk (st := sNumber) lNn cNn kNn
  have mtNn : Meth K CN "number" fNn := ⟨aNn, iNn, kNn⟩
  have bNn := FNn.binds (ps := ["self", "path"]) fun _ _ _ _ _ _ us hl => match us, hl with | [_, _], _ => rfl
  have FNk := fun_mk (st := sKeep) lNk cNk kNk
  have mtNk : Meth K CN "keep" fNk := ⟨aNk, iNk, kNk⟩
  have bNk := FNk.binds (ps := ["self", "paths"]) fun _ _ _ _ _ _ us hl => match us, hl with | [_, _], _ => rfl
  have TCN : Cls K CN := ⟨pgN, hdN, poN, saN⟩
  have mNumbers := PySem.W.mg_of X G aCN
  have m_len := PySem.W.mg_none_of X G z_len
  have m_range := PySem.W.mg_none_of X G z_range
  have m_int := PySem.W.mg_none_of X G z_int
  have m_isinstance := PySem.W.mg_none_of X G z_isinstance
  have m_tuple := PySem.W.mg_none_of X G z_tuple
  have m_bool := PySem.W.mg_none_of X G z_bool
  have m_str := PySem.W.mg_none_of X G z_str
  refine ⟨PySem.W.fnOf "law" "law" (defArgs sLaw) (defBody sLaw) (defScope sLaw) .none kVw dcw pmw anw cdw ctw, fun s v => .of_eq rfl, fun base _ _ => ?_⟩
  have gC := ok_cell (P := l.prog) (w := w) (base := base) (k := 0) FC m_len
  have gD := ok_digits (k := 1) FD gC bC kC mC m_range m_int
  have gR := Pw.FnOk.weak (sp' := spDrawY) (ok_draw (P := l.prog) (w := w) (base := base) (k := 0) FR m_len m_int) fun _ _ _ _ h => draw_y h
  have gS := all_same (P := l.prog) (w := w) (base := base) FS bS kS mS m_isinstance m_tuple m_len m_range m_bool m_int m_str 40
  have gB := ok_box (k := 2) FB gD bD kD mD
  have gNi := ok_ninit (P := l.prog) (w := w) (mg := mg) (base := base) FNi TCN nN_given nN_many
  have gNn := ok_number (P := l.prog) (w := w) (mg := mg) (base := base) FNn TCN nN_given nN_many
  have gNk := ok_keep (P := l.prog) (w := w) (mg := mg) (base := base) FNk TCN nN_given
  exact ok_law (k := 40) Fw (gB.mono (by decide)) bB kB mB (gR.mono (by decide)) bR kR mR (gS.mono (by decide)) bS kS mS TCN MkNi mNumbers (gNi.mono (by decide)) bNi (gNn.mono (by decide)) bNn mtNn (gNk.mono (by decide)) bNk mtNk m_tuple m_range m_len
theorem walk {l : PySem.W.OpenLaw} {q : Program} {loose : List Str} {XP : (Str → Option Value) → Heap → Prop} {YP : World → Heap → Prop} {d : DefRec} {K : Params → PySem.W.Frag} (hn : l.most = some 63) (hdf : d.params.defaults = [])
    (hY : ∀ (w : World) (h : Heap), YP w h → (K w.params).In h)
    (F : ∀ (w : World) (mg : Str → Option Value) (fa : Addr) (h : Heap), (K w.params).In h → h.Ns mainGlobals mg → mg d.name = some (.ref fa) →
      ∃ fd : FuncData, (∀ (s : Shared) (u : Value), BindsTo s fd ⟨[u], []⟩ [("script", u)]) ∧ ∀ base : Heap, (K w.params).In base → base.Ns mainGlobals mg → FnOk l.prog w (K w.params) mg base CX0 42 fa fd ["script"] (spLawY (K w.params))) :
    PySem.W.WalkO q loose XP YP l.row.toRowW d [] (fun f vs => PySem.call f vs) :=
  L2.walk_of (n := 63) (k := 42) (x := "script") (CX := fun _ => CX0) (sp := fun w => spLawY (K w.params)) hn (by decide) hdf ⟨rfl, by decide, by decide⟩ hY F (fun _ _ a ns hl _ hS => ⟨a, ns, rfl, hS, hl, fun _ => rfl⟩) fun _ _ _ _ _ z => z
end Pw
open PySem PySem.W PyProof.Rows
set_option maxRecDepth 100000 in
set_option maxHeartbeats 0 in
theorem PySem.Challenge.cw_pagewake_k41_numbers_of_paths_holds : PySem.Challenge.rw_pagewake_k41_numbers_of_paths.Holds := by
  w_on; o_law; k_head; (case hw => w_witness2)
  k_fill
  refine Pw.walk (l := PySem.Challenge.rw_pagewake_k41_numbers_of_paths) rfl rfl (fun w h Y => PySem.W.kIn_of Y) ?F
  case F =>
    intro w mg fa h KX G hmg
    refine' Pw.all_mk KX G hmg ?qaC ?qlC ?qcC ?qkC ?qaD ?qlD ?qcD ?qkD ?qaR ?qlR ?qcR ?qkR ?qaS ?qlS ?qcS ?qkS ?qaB ?qlB ?qcB ?qkB ?qaw ?qlw ?qcw ?qkw ?qaNi ?qiNi ?qlNi ?qcNi ?qkNi ?qaNn ?qiNn ?qlNn ?qcNn ?qkNn ?qaNk ?qiNk ?qlNk ?qcNk ?qkNk ?qaCN ?qpgN ?qhdN ?qpoN ?qsaN ?qmkN ?qkCN ?qnN_given ?qnN_many ?qz_len ?qz_range ?qz_int ?qz_isinstance ?qz_tuple ?qz_bool ?qz_str
    (case qaCN => k_is)
    (case qaC => k_is)
    (case qlC => k_is)
    (case qcC => k_is)
    (case qkC => k_is)
    (case qaD => k_is)
    (case qlD => k_is)
    (case qcD => k_is)
    (case qkD => k_is)
    (case qaR => k_is)
    (case qlR => k_is)
    (case qcR => k_is)
    (case qkR => k_is)
    (case qaS => k_is)
    (case qlS => k_is)
    (case qcS => k_is)
    (case qkS => k_is)
    (case qaB => k_is)
    (case qlB => k_is)
    (case qcB => k_is)
    (case qkB => k_is)
    (case qaw => k_is)
    (case qlw => k_is)
    (case qcw => k_is)
    (case qkw => k_is)
    (case qaNi => k_is)
    (case qiNi => k_is)
    (case qlNi => k_is)
    (case qcNi => k_is)
    (case qkNi => k_is)
    (case qaNn => k_is)
    (case qiNn => k_is)
    (case qlNn => k_is)
    (case qcNn => k_is)
    (case qkNn => k_is)
    (case qaNk => k_is)
    (case qiNk => k_is)
    (case qlNk => k_is)
    (case qcNk => k_is)
    (case qkNk => k_is)
    (case qpgN => k_is)
    (case qhdN => k_is)
    (case qpoN => k_is)
    (case qsaN => k_is)
    (case qmkN => k_is)
    (case qkCN => k_is)
    (case qnN_given => k_is)
    (case qnN_many => k_is)
    (case qz_len => k_is)
    (case qz_range => k_is)
    (case qz_int => k_is)
    (case qz_isinstance => k_is)
    (case qz_tuple => k_is)
    (case qz_bool => k_is)
    (case qz_str => k_is)
