import PyProof.Rows.All
import Wide.All
import OpenK.AllK
import Wide.FinOn
import HandS.Call
import PyProof.Rows.MatchSeqLen
import HandS.ForMost
import HandS.IsInst
import HandS.Conv
import HandS.AnyAll
import PyProof.TupleOfGen
import KE.GoesEnum
import HandS.TupAny
import HandS.EndOwn
import PyProof.ReprBulk
import PyProof.ReprRoads
import HandS.FStr
import HandS.ExcInit
import HandS.Codes
import HandS.WordsExc
import HandS.ClsMeth
import HandS.HotCalls
import KE.KExcIs
import HandS.ExcField
import PySem.Challenge.RW_pagewake_k01_the_first_fault_of_a_progra
set_option Elab.async false
set_option linter.all false
set_option maxRecDepth 100000
set_option maxHeartbeats 4000000
namespace Pw
open PySem PySem.Spec PyProof.Rows L2

/-- what a pattern binds: the slot, the value -/
abbrev Bnd := List (Nat × V)
def BndOk (X : Cx) (p : Nat × V) (q : Str × Value) : Prop := X.N[p.1]? = some q.1 ∧ X.env.scope.names.lookup q.1 = some .local ∧ RelV p.2 q.2
def RelB (X : Cx) : Option Bnd → Option (List (Str × Value)) → Prop
  | none, none => True
  | some bs, some us => Paired (BndOk X) bs us
  | _, _ => False
abbrev TPat := V → Hp → (Option Bnd → Prop) → Prop
abbrev TPats := List V → Hp → (Option Bnd → Prop) → Prop
structure PPat (X : Cx) (p : Pattern) (t : TPat) : Prop where
  run : ∀ (pins : List (Addr × Obj)) (s : Shared) (σ : L2.St) (H : Hp) (v : V) (u : Value) (Q : Option Bnd → Prop), Inv X pins σ H s → RelV v u → t v H Q →
    wpAny (model X.prog X.w) X.A (matchPattern p X.env u) (fun r s' => ∃ b, Inv X pins σ H s' ∧ RelB X b r ∧ Q b) X.xe s
structure PPats (X : Cx) (ps : List Pattern) (t : TPats) : Prop where
  run : ∀ (pins : List (Addr × Obj)) (s : Shared) (σ : L2.St) (H : Hp) (vs : List V) (us : List Value) (Q : Option Bnd → Prop), Inv X pins σ H s → Vals vs us → t vs H Q →
    wpAny (model X.prog X.w) X.A (matchEach ps X.env us) (fun r s' => ∃ b, Inv X pins σ H s' ∧ RelB X b r ∧ Q b) X.xe s
theorem Paired.appendP {α β : Type} {F : α → β → Prop} : ∀ {a : List α} {b : List β} {c : List α} {d : List β}, Paired F a b → Paired F c d → Paired F (a ++ c) (b ++ d)
  | _, _, _, _, .nil, q => q
  | _, _, _, _, .cons r t, q => .cons r (Paired.appendP t q)
section
variable {X : Cx}
def tPName (i : Nat) : TPat := fun v _ Q => Q (some [(i, v)])
theorem pp_name (i : Nat) {x : Str} {pos : Pos} (hN : X.N[i]? = some x := by rfl) (hx : X.env.scope.names.lookup x = some .local := by rfl) : PPat X (.MatchAs none (some x) pos) (tPName i) := by
  refine ⟨fun pins s σ H v u Q I r h => ?_⟩
  exact wpAny_matchPattern_Capture ⟨some [(i, v)], I, (show Paired (BndOk X) [(i, v)] [(x, u)] from .cons ⟨hN, hx, r⟩ .nil), h⟩
def tPAny : TPat := fun _ _ Q => Q (some [])
theorem pp_any {pos : Pos} : PPat X (.MatchAs none none pos) tPAny := by
  refine ⟨fun pins s σ H v u Q I r h => ?_⟩
  exact wpAny_matchPattern_Capture ⟨some [], I, (show Paired (BndOk X) [] [] from .nil), h⟩
/-- a written text -/
def tPStr (x : Str) : TPat := fun v _ Q => ∃ z, v = .str z ∧ Q (if z = x then some [] else none)
theorem pp_str {x : Str} {j : Nat} {p1 pos : Pos} : PPat X (.MatchValue (.Constant (.str x) j p1) pos) (tPStr x) := by
  refine ⟨fun pins s σ H v u Q I r h => ?_⟩
  obtain ⟨z, rfl, q⟩ := h
  obtain ⟨t, rfl⟩ := r
  refine wpAny_matchPattern_Value (Calls.Constant_str (PyProof.Rows.eq_str (wpAny_truthy_bool ?_)))
  have I' := I.tok (s.toks + 1)
  by_cases e : z = x
  · subst e
    have e2 : (z == z) = true := by simp
    rw [if_pos e2]
    rw [if_pos rfl] at q
    exact ⟨some [], I', (show Paired (BndOk X) [] [] from .nil), q⟩
  · have e2 : ¬ (z == x) = true := fun h => e (by simpa using h)
    rw [if_neg e2]
    rw [if_neg e] at q
    exact ⟨none, I', trivial, q⟩
def tPNil : TPats := fun _ _ Q => Q (some [])
theorem pps_nil' : PPats X [] tPNil := ⟨fun pins s σ H vs us Q I r h => wpAny_matchEach_nil ⟨some [], I, (show Paired (BndOk X) [] [] from .nil), h⟩⟩
def tPCons (t : TPat) (u : TPats) : TPats := fun vs H Q => ∃ v r, vs = v :: r ∧ t v H fun b => match b with
  | none => Q none
  | some bs => u r H fun c => match c with
    | none => Q none
    | some cs => Q (some (bs ++ cs))
theorem pps_cons' {p : Pattern} {ps : List Pattern} {t : TPat} {u : TPats} (h1 : PPat X p t) (h2 : PPats X ps u) (hp : p.isStar = false := by rfl) : PPats X (p :: ps) (tPCons t u) := by
  refine ⟨fun pins s σ H vs us Q I r h => ?_⟩
  obtain ⟨v, w, rfl, h⟩ := h
  cases r with
  | cons r rr =>
    refine wpAny_matchEach_cons (thn (h1.run pins s σ H _ _ _ I r h) fun a s1 ⟨b, I1, rb, q⟩ => ?_) hp
    cases b with
    | none =>
      cases a with
      | none => exact ⟨none, I1, trivial, q⟩
      | some us => exact rb.elim
    | some bs =>
      cases a with
      | none => exact rb.elim
      | some us =>
        refine thn (h2.run pins s1 σ H _ _ _ I1 rr q) fun a2 s2 ⟨c, I2, rc, q2⟩ => ?_
        cases c with
        | none =>
          cases a2 with
          | none => exact ⟨none, I2, trivial, q2⟩
          | some _ => exact rc.elim
        | some cs =>
          cases a2 with
          | none => exact rc.elim
          | some ws => exact ⟨some (bs ++ cs), I2, Paired.appendP rb rc, q2⟩
/-- a sequence pattern at a tuple -/
def tPSeq (K : PySem.W.Frag) (n : Nat) (t : TPats) : TPat := fun v H Q => ∃ a xs, v = .ref a ∧ SqT K H a xs ∧ if xs.length = n then t xs H Q else Q none
theorem pp_seq {ps : List Pattern} {pos : Pos} {t : TPats} {n : Nat} (hc : X.calm = true) (h : PPats X ps t) (hn : ps.length = n := by rfl) (hstar : ps.findIdx? (·.isStar) = none := by rfl)
    (hwild : (ps.all fun p => p.isWildcard || (p.isStar && p.names.isEmpty)) = false := by rfl) : PPat X (.MatchSequence ps pos) (tPSeq X.K n t) := by
  refine ⟨fun pins s σ H v u Q I r hw => ?_⟩
  obtain ⟨a, xs, rfl, hq, hw⟩ := hw
  obtain rfl : u = Value.ref a := r
  obtain ⟨its, rv, ht, hz⟩ := I.tuple hq
  have el := rv.length
  have hfit : ((its.toArray.size : Nat) : Int) < 2 ^ 63 := by
    have hs : sizeLine ≤ 2 ^ 62 := by decide
    simp only [List.size_toArray]
    omega
  by_cases e : xs.length = n
  · rw [if_pos e] at hw
    have e2 : its.toArray.size = ps.length := by simp only [List.size_toArray]; omega
    refine matchSeq_tuple_hit ht hfit e2 ?_ hstar hwild
    rw [← e2]
    refine unpackItems_tuple (I.ok.hd hc) (by exact ht) fun h' hx => ?_
    have I1 : Inv X pins σ H { s with heap := h', toks := s.toks + 1 + 1 } := I.kept fun b o q => hx b o (Nat.ne_of_lt (Heap.lt_size q)) q
    exact h.run pins _ σ H xs _ Q I1 (by simpa using rv) hw
  · rw [if_neg e] at hw
    have e2 : its.toArray.size ≠ ps.length := by simp only [List.size_toArray]; omega
    exact matchSeq_tuple_miss ht hfit e2 ⟨none, I.tok _, trivial, hw⟩ hstar hwild
/-! ### cases -/
abbrev TCs := V → Ends → L2.St → Hp → Prop
structure PCs (X : Cx) (cs : List MatchCase) (t : TCs) : Prop where
  run : ∀ (first : Bool) (pins : List (Addr × Obj)) (s : Shared) (σ : L2.St) (H : Hp) (D : Ends) (v : V) (u : Value), Inv X pins σ H s → RelV v u → t v D σ H →
    wpAny (model X.prog X.w) X.A (matchCases cs X.env u first) (SP X pins D) X.xe s
def setAll (σ : L2.St) : Bnd → L2.St
  | [] => σ
  | p :: r => setAll (σ.set p.1 (some p.2)) r
def tCsNil : TCs := fun _ D σ H => D.nx σ H
theorem pcs_nil : PCs X [] tCsNil := ⟨fun _ pins s σ H D v u I r h => wpAny_matchCases_nil ⟨σ, H, I, h⟩⟩
def tCase (t : TPat) (tb : TS) (tr : TCs) : TCs := fun v D σ H => t v H fun b => match b with
  | none => tr v D σ H
  | some bs => tb D (setAll σ bs) H
theorem assign_bnd (hN : X.N.Nodup) : ∀ {bs : Bnd} {us : List (Str × Value)} {pins : List (Addr × Obj)} {s : Shared} {σ : L2.St} {H : Hp} {Q : Unit → Shared → Prop}, Paired (BndOk X) bs us → Inv X pins σ H s → (∀ s', Inv X pins (setAll σ bs) H s' → Q () s') →
    wpAny (model X.prog X.w) X.A (assignInOrder (us.map fun (n, _) => bindName X.env n) (us.map (·.2))) Q X.xe s
  | _, _, _, s, _, _, _, .nil, I, h => assignInOrder_nil (h s I)
  | p :: bs, q :: us, pins, s, σ, H, Q, .cons r t, I, h => by
    obtain ⟨h1, h2, h3⟩ := r
    exact assignInOrder_cons (wpAny_bindName (store_ok I hN h1 (.inl h2) h3 (fun s' I' => assign_bnd hN t I' fun s2 I2 => h s2 I2) (.inr h2)))
theorem pcs_cons {p : Pattern} {body : List Stmt} {rest : List MatchCase} {t : TPat} {tb : TS} {tr : TCs} (hN : X.N.Nodup) (hp : PPat X p t) (hb : PSs X body tb) (hr : PCs X rest tr) : PCs X (⟨p, none, body⟩ :: rest) (tCase t tb tr) := by
  refine ⟨fun first pins s σ H D v u I r h => ?_⟩
  refine wpAny_matchCases_cons (thn (hp.run pins s σ H v u _ I r h) fun a s1 ⟨b, I1, rb, q⟩ => ?_)
  cases b with
  | none =>
    cases a with
    | none => exact hr.run false pins s1 σ H D v u I1 r q
    | some _ => exact rb.elim
  | some bs =>
    cases a with
    | none => exact rb.elim
    | some us => exact assign_bnd hN rb I1 fun s2 I2 => hb.run pins s2 _ H D I2 q
def tMatch (te : TE) (tc : TCs) : TS := fun D σ H => te σ H fun x H1 => tc x D σ H1
theorem ps_match {e : Expr} {cs : List MatchCase} {pos : Pos} {te : TE} {tc : TCs} (he : PE X e te) (hc : PCs X cs tc) : PS X (.Match e cs pos) (tMatch te tc) := by
  refine ⟨fun pins s σ H D I h => ?_⟩
  exact wpAny_Match (thn (he.run pins s σ H _ I h) fun v s1 ⟨x, H1, I1, r1, q1⟩ => hc.run true pins s1 σ H1 D x v I1 r1 q1)
end
end Pw
namespace Pw
open PySem PySem.Spec PyProof.Rows L2
/-! ### heaps -/
/-- all but S is as it was; tuples never change -/
structure Oth (S : List Addr) (H H' : Hp) : Prop where
  keep : ∀ a o, a ∉ S → H a = some o → H' a = some o
  tup : ∀ a xs, H a = some (.tup xs) → H' a = some (.tup xs)
section
variable {S S' : List Addr} {H H' H2 : Hp} {p b : Addr} {o : HO} {xs : List V}
theorem Oth.refl : Oth S H H := ⟨fun _ _ _ h => h, fun _ _ h => h⟩
theorem Oth.trans (x : Oth S H H') (y : Oth S H' H2) : Oth S H H2 := ⟨fun a o n h => y.keep a o n (x.keep a o n h), fun a xs h => y.tup a xs (x.tup a xs h)⟩
theorem Oth.new (h : H p = none) : Oth S H (upd H p o) := ⟨fun a o' _ q => by rw [upd_ne (ne_of_none q h)]; exact q, fun a xs q => by rw [upd_ne (ne_of_none q h)]; exact q⟩
theorem Oth.put (hb : b ∈ S) (h : H b = some (.lst xs)) : Oth S H (upd H b o) :=
  ⟨fun a o' n q => by rw [upd_ne (fun e => n (by rw [e]; exact hb))]; exact q, fun a xs q => by rw [upd_ne (ne_of q h (by intro z; cases z))]; exact q⟩
theorem Oth.mono (x : Oth S H H') (h : ∀ a ∈ S, a ∈ S') : Oth S' H H' := ⟨fun a o n => x.keep a o fun z => n (h a z), x.tup⟩
/-- what was not there may be forgotten -/
theorem Oth.drop (x : Oth (p :: S) H H') (h : H p = none) : Oth S H H' :=
  ⟨fun a o n q => x.keep a o (fun z => (List.mem_cons.mp z).elim (fun e => by rw [e, h] at q; cases q) n) q, x.tup⟩
theorem Oth.drop2 (x : Oth (b :: p :: S) H H') (h : H p = none) : Oth (b :: S) H H' :=
  Oth.drop (p := p) (x.mono fun a z => by simp only [List.mem_cons] at z ⊢; rcases z with z | z | z <;> simp [z]) h
theorem Oth.ne (x : Oth S H H') (h : H' p = none) (hb : b ∉ S) (q : H b = some o) : b ≠ p := ne_of_none (x.keep b o hb q) h
theorem Oth.lst (x : Oth S H H') (hb : b ∉ S) (q : H b = some (.lst xs)) : H' b = some (.lst xs) := x.keep b _ hb q
theorem Oth.sqT {K : PySem.W.Frag} (x : Oth S H H') (h : H b = some (.tup xs)) : SqT K H' b xs := SqT.of (x.tup b xs h)
end
/-! ### data that never change -/
inductive T where
  | non | bl (b : Bool) | int (i : Int) | str (s : Str) | tup (ts : List T)
inductive IsT (H : Hp) : T → V → Prop
  | non : IsT H .non .non
  | bl (b : Bool) : IsT H (.bl b) (.bl b)
  | int (i : Int) : IsT H (.int i) (.int i)
  | str (s : Str) : IsT H (.str s) (.str s)
  | tup {a : Addr} {xs : List V} {ts : List T} : H a = some (.tup xs) → xs.length = ts.length → (∀ (i : Nat) (t : T) (x : V), ts[i]? = some t → xs[i]? = some x → IsT H t x) → IsT H (.tup ts) (.ref a)
section
variable {H H' : Hp} {S : List Addr} {a : Addr} {xs : List V} {ts : List T} {t : T} {v : V}
theorem IsT.oth (h : IsT H t v) (o : Oth S H H') : IsT H' t v := by
  induction h with
  | non => exact .non
  | bl b => exact .bl b
  | int i => exact .int i
  | str s => exact .str s
  | tup e l _ ih => exact .tup (o.tup _ _ e) l ih
theorem paired_of : ∀ {ts : List T} {xs : List V}, xs.length = ts.length → (∀ (i : Nat) (t : T) (x : V), ts[i]? = some t → xs[i]? = some x → IsT H t x) → Paired (IsT H) ts xs
  | [], [], _, _ => .nil
  | [], _ :: _, l, _ => by cases l
  | _ :: _, [], l, _ => by cases l
  | t :: ts, x :: xs, l, h => .cons (h 0 t x rfl rfl) (paired_of (Nat.succ.inj l) fun i t' x' e1 e2 => h (i + 1) t' x' e1 e2)
theorem paired_get : ∀ {ts : List T} {xs : List V}, Paired (IsT H) ts xs → xs.length = ts.length ∧ ∀ (i : Nat) (t : T) (x : V), ts[i]? = some t → xs[i]? = some x → IsT H t x
  | _, _, .nil => ⟨rfl, fun i t x e => by simp at e⟩
  | _, _, .cons r q => by
    obtain ⟨l, h⟩ := paired_get q
    refine ⟨congrArg (· + 1) l, fun i t x e1 e2 => ?_⟩
    cases i with
    | zero => cases e1; cases e2; exact r
    | succ i => exact h i t x e1 e2
theorem IsT.inv (h : IsT H (.tup ts) v) : ∃ a xs, v = .ref a ∧ H a = some (.tup xs) ∧ Paired (IsT H) ts xs := by
  cases h with
  | tup e l q => exact ⟨_, _, rfl, e, paired_of l q⟩
theorem IsT.mk (e : H a = some (.tup xs)) (q : Paired (IsT H) ts xs) : IsT H (.tup ts) (.ref a) := .tup e (paired_get q).1 (paired_get q).2
theorem paired_oth : ∀ {ts : List T} {xs : List V}, Paired (IsT H) ts xs → Oth S H H' → Paired (IsT H') ts xs
  | _, _, .nil, _ => .nil
  | _, _, .cons r q, o => .cons (r.oth o) (paired_oth q o)
theorem paired_app {us : List T} {ys : List V} (p : Paired (IsT H) ts xs) (q : Paired (IsT H) us ys) : Paired (IsT H) (ts ++ us) (xs ++ ys) := Paired.appendP p q
theorem paired_int : ∀ {ns : List Int} {xs : List V}, Paired (IsT H) (ns.map T.int) xs → xs = ns.map V.int
  | [], _, .nil => rfl
  | n :: ns, _, .cons r q => by
    cases r
    rw [paired_int q]
    rfl
theorem int_paired : ∀ (ns : List Int), Paired (IsT H) (ns.map T.int) (ns.map V.int)
  | [] => .nil
  | n :: ns => .cons (.int n) (int_paired ns)
theorem IsT.ints {ns : List Int} (h : IsT H (.tup (ns.map T.int)) v) : ∃ a, v = .ref a ∧ H a = some (.tup (ns.map V.int)) := by
  obtain ⟨a, xs, rfl, e, p⟩ := h.inv
  rw [paired_int p] at e
  exact ⟨a, rfl, e⟩
theorem IsT.of_int {i : Int} (h : IsT H (.int i) v) : v = .int i := by cases h; rfl
theorem IsT.of_str {s : Str} (h : IsT H (.str s) v) : v = .str s := by cases h; rfl
theorem IsT.of_non (h : IsT H .non v) : v = .non := by cases h; rfl
theorem IsT.inv1 {t1 : T} (h : IsT H (.tup [t1]) v) : ∃ a x1, v = .ref a ∧ H a = some (.tup [x1]) ∧ IsT H t1 x1 := by
  obtain ⟨a, xs, rfl, e, p⟩ := h.inv
  cases p with | cons p1 p => cases p; exact ⟨a, _, rfl, e, p1⟩
theorem IsT.inv2 {t1 t2 : T} (h : IsT H (.tup [t1, t2]) v) : ∃ a x1 x2, v = .ref a ∧ H a = some (.tup [x1, x2]) ∧ IsT H t1 x1 ∧ IsT H t2 x2 := by
  obtain ⟨a, xs, rfl, e, p⟩ := h.inv
  cases p with | cons p1 p => cases p with | cons p2 p => cases p; exact ⟨a, _, _, rfl, e, p1, p2⟩
theorem IsT.inv3 {t1 t2 t3 : T} (h : IsT H (.tup [t1, t2, t3]) v) : ∃ a x1 x2 x3, v = .ref a ∧ H a = some (.tup [x1, x2, x3]) ∧ IsT H t1 x1 ∧ IsT H t2 x2 ∧ IsT H t3 x3 := by
  obtain ⟨a, xs, rfl, e, p⟩ := h.inv
  cases p with | cons p1 p => cases p with | cons p2 p => cases p with | cons p3 p => cases p; exact ⟨a, _, _, _, rfl, e, p1, p2, p3⟩
theorem IsT.inv4 {t1 t2 t3 t4 : T} (h : IsT H (.tup [t1, t2, t3, t4]) v) : ∃ a x1 x2 x3 x4, v = .ref a ∧ H a = some (.tup [x1, x2, x3, x4]) ∧ IsT H t1 x1 ∧ IsT H t2 x2 ∧ IsT H t3 x3 ∧ IsT H t4 x4 := by
  obtain ⟨a, xs, rfl, e, p⟩ := h.inv
  cases p with | cons p1 p => cases p with | cons p2 p => cases p with | cons p3 p => cases p with | cons p4 p => cases p; exact ⟨a, _, _, _, _, rfl, e, p1, p2, p3, p4⟩
theorem IsT.inv5 {t1 t2 t3 t4 t5 : T} (h : IsT H (.tup [t1, t2, t3, t4, t5]) v) : ∃ a x1 x2 x3 x4 x5, v = .ref a ∧ H a = some (.tup [x1, x2, x3, x4, x5]) ∧ IsT H t1 x1 ∧ IsT H t2 x2 ∧ IsT H t3 x3 ∧ IsT H t4 x4 ∧ IsT H t5 x5 := by
  obtain ⟨a, xs, rfl, e, p⟩ := h.inv
  cases p with | cons p1 p => cases p with | cons p2 p => cases p with | cons p3 p => cases p with | cons p4 p => cases p with | cons p5 p => cases p; exact ⟨a, _, _, _, _, _, rfl, e, p1, p2, p3, p4, p5⟩
theorem IsT.mk1 {t1 : T} {x1 : V} (e : H a = some (.tup [x1])) (p1 : IsT H t1 x1) : IsT H (.tup [t1]) (.ref a) := .mk e (.cons p1 .nil)
theorem IsT.mk2 {t1 t2 : T} {x1 x2 : V} (e : H a = some (.tup [x1, x2])) (p1 : IsT H t1 x1) (p2 : IsT H t2 x2) : IsT H (.tup [t1, t2]) (.ref a) := .mk e (.cons p1 (.cons p2 .nil))
theorem IsT.mk3 {t1 t2 t3 : T} {x1 x2 x3 : V} (e : H a = some (.tup [x1, x2, x3])) (p1 : IsT H t1 x1) (p2 : IsT H t2 x2) (p3 : IsT H t3 x3) : IsT H (.tup [t1, t2, t3]) (.ref a) := .mk e (.cons p1 (.cons p2 (.cons p3 .nil)))
theorem IsT.mk4 {t1 t2 t3 t4 : T} {x1 x2 x3 x4 : V} (e : H a = some (.tup [x1, x2, x3, x4])) (p1 : IsT H t1 x1) (p2 : IsT H t2 x2) (p3 : IsT H t3 x3) (p4 : IsT H t4 x4) : IsT H (.tup [t1, t2, t3, t4]) (.ref a) := .mk e (.cons p1 (.cons p2 (.cons p3 (.cons p4 .nil))))
theorem IsT.mk5 {t1 t2 t3 t4 t5 : T} {x1 x2 x3 x4 x5 : V} (e : H a = some (.tup [x1, x2, x3, x4, x5])) (p1 : IsT H t1 x1) (p2 : IsT H t2 x2) (p3 : IsT H t3 x3) (p4 : IsT H t4 x4) (p5 : IsT H t5 x5) : IsT H (.tup [t1, t2, t3, t4, t5]) (.ref a) := .mk e (.cons p1 (.cons p2 (.cons p3 (.cons p4 (.cons p5 .nil)))))
end
/-! ### ways that meet behind a statement -/
section
variable {X : Cx} {st : Stmt} {rest : List Stmt} {t u : TS}
def tCut (t u : TS) : TS := fun D σ H => ∃ Mid : L2.St → Hp → Prop, t { D with nx := Mid } σ H ∧ ∀ σ' H', Mid σ' H' → u D σ' H'
theorem pss_cut (h1 : PS X st t) (h2 : PSs X rest u) : PSs X (st :: rest) (tCut t u) := by
  refine ⟨fun pins s σ H D I h => ?_⟩
  obtain ⟨Mid, h, hm⟩ := h
  refine wpAny_execs_cons (thn (h1.run pins s σ H { D with nx := Mid } I h) fun f s1 q => ?_)
  cases f with
  | next =>
    obtain ⟨σ', H', I', q⟩ := q
    exact h2.run pins s1 σ' H' D I' (hm _ _ q)
  | ret v => exact q
  | brk => exact q
  | cont => exact q
end
theorem Oth.sqL {K : PySem.W.Frag} {H H' : Hp} {S : List Addr} {a : Addr} {xs : List V} (x : Oth S H H') (n : a ∉ S) (h : SqL K H a xs) : SqL K H' a xs := by
  rcases h with (h | ⟨o, h⟩) | h
  · exact .inl (.inl (x.keep _ _ n h))
  · exact .inl (.inr ⟨o, x.keep _ _ n h⟩)
  · exact .inr h
/-! ### cases of a match -/
section
variable {K : PySem.W.Frag} {H : Hp} {a : Addr} {n : Nat} {z x : Str} {r : List V} {u : TPats} {tb : TS} {tr : TCs} {D : Ends} {σ : L2.St}
theorem case_skip (h : SqT K H a (.str z :: r)) (hz : z ≠ x) (q : tr (.ref a) D σ H) : tCase (tPSeq K n (tPCons (tPStr x) u)) tb tr (.ref a) D σ H := by
  refine ⟨a, _, rfl, h, ?_⟩
  by_cases e : (V.str z :: r).length = n
  · rw [if_pos e]
    refine ⟨_, _, rfl, z, rfl, ?_⟩
    rw [if_neg hz]
    exact q
  · rw [if_neg e]
    exact q
theorem case_len (h : SqT K H a r) (hz : r.length ≠ n) (q : tr (.ref a) D σ H) : tCase (tPSeq K n u) tb tr (.ref a) D σ H := by
  refine ⟨a, _, rfl, h, ?_⟩
  rw [if_neg hz]
  exact q
theorem case_hit (h : SqT K H a (.str x :: r)) (hl : r.length + 1 = n) (q : u r H fun c => match c with
    | none => tr (.ref a) D σ H
    | some bs => tb D (setAll σ bs) H) : tCase (tPSeq K n (tPCons (tPStr x) u)) tb tr (.ref a) D σ H := by
  refine ⟨a, _, rfl, h, ?_⟩
  rw [if_pos (show (V.str x :: r).length = n from hl)]
  refine ⟨_, _, rfl, x, rfl, ?_⟩
  rw [if_pos rfl]
  exact q
end
end Pw
namespace Pw
open PySem PySem.Spec PyProof.Rows L2
/-! ### expressions -/
inductive E where
  | num (n : Int) | cell (i : Nat) | prop (i : Nat) | store (i : Nat) | index
  | plus (a b : E) | minus (a b : E) | same (a b : E) | less (a b : E) | ite (c a b : E)
def E.toT : E → T
  | .num n => .tup [.str "num", .int n]
  | .cell i => .tup [.str "cell", .int (i : Int)]
  | .prop i => .tup [.str "prop", .int (i : Int)]
  | .store i => .tup [.str "store", .int (i : Int)]
  | .index => .tup [.str "index"]
  | .plus a b => .tup [.str "plus", a.toT, b.toT]
  | .minus a b => .tup [.str "minus", a.toT, b.toT]
  | .same a b => .tup [.str "same", a.toT, b.toT]
  | .less a b => .tup [.str "less", a.toT, b.toT]
  | .ite c a b => .tup [.str "if", c.toT, a.toT, b.toT]
def E.depth : E → Nat
  | .plus a b | .minus a b | .same a b | .less a b => max a.depth b.depth + 1
  | .ite c a b => max c.depth (max a.depth b.depth) + 1
  | _ => 0
def E.size : E → Nat
  | .plus a b | .minus a b | .same a b | .less a b => a.size + b.size
  | .ite c a b => c.size + a.size + b.size
  | _ => 1
structure Sc where
  cells : List Int
  props : List Int
  store : List Int
  index : Int
def Sc.toT (c : Sc) : T := .tup [.str "scope", .tup (c.cells.map .int), .tup (c.props.map .int), .tup (c.store.map .int), .int c.index]
def E.val (c : Sc) : E → Int
  | .num n => n
  | .cell i => c.cells.getD i 0
  | .prop i => c.props.getD i 0
  | .store i => c.store.getD i 0
  | .index => c.index
  | .plus a b => (a.val c + b.val c) % 1000
  | .minus a b => (a.val c - b.val c) % 1000
  | .same a b => if a.val c = b.val c then 1 else 0
  | .less a b => if a.val c < b.val c then 1 else 0
  | .ite q a b => if q.val c = 0 then b.val c else a.val c
def E.looks (c : Sc) : E → List Int
  | .store i => if i < c.store.length then [(i : Int)] else []
  | .plus a b | .minus a b | .same a b | .less a b => a.looks c ++ b.looks c
  | .ite q a b => q.looks c ++ if q.val c = 0 then b.looks c else a.looks c
  | _ => []
theorem E.size_pos : ∀ e : E, 1 ≤ e.size
  | .plus a b | .minus a b | .same a b | .less a b => by have := E.size_pos a; simp only [E.size]; omega
  | .ite q a b => by have := E.size_pos q; simp only [E.size]; omega
  | .num _ | .cell _ | .prop _ | .store _ | .index => by simp [E.size]
theorem E.looks_le (c : Sc) : ∀ e : E, (e.looks c).length ≤ e.size
  | .plus a b | .minus a b | .same a b | .less a b => by
    have h1 := E.looks_le c a
    have h2 := E.looks_le c b
    simp only [E.looks, E.size, List.length_append]
    omega
  | .ite q a b => by
    have h0 := E.looks_le c q
    have h1 := E.looks_le c a
    have h2 := E.looks_le c b
    simp only [E.looks, E.size, List.length_append]
    split <;> omega
  | .store i => by
    simp only [E.looks, E.size]
    split <;> simp
  | .num _ | .cell _ | .prop _ | .index => by simp [E.looks]
theorem getD_of {xs : List Int} {i : Nat} (h : i < xs.length) : (xs.map V.int)[i]? = some (.int (xs.getD i 0)) := by
  rw [List.getElem?_map, List.getElem?_eq_getElem h, List.getD_eq_getElem?_getD, List.getElem?_eq_getElem h]
  rfl
theorem getD_out {xs : List Int} {i : Nat} (h : ¬ i < xs.length) : xs.getD i 0 = 0 := by
  rw [List.getD_eq_getElem?_getD, List.getElem?_eq_none (by omega)]
  rfl
/-! ### what the defs promise -/
def spThere (K : PySem.W.Frag) : Sp := fun vs H Q _ => ∃ (a : Addr) (xs : List Int) (i : Nat), vs = [.ref a, .int (i : Int)] ∧ SqT K H a (xs.map V.int) ∧ Q (.bl (decide (i < xs.length))) H
def spItem (K : PySem.W.Frag) : Sp := fun vs H Q _ => ∃ (a : Addr) (xs : List Int) (i : Nat), vs = [.ref a, .int (i : Int)] ∧ SqT K H a (xs.map V.int) ∧ Q (.int (xs.getD i 0)) H
def spValue (n : Nat) : Sp := fun vs H Q _ => ∃ (e : E) (c : Sc) (ve vc : V) (l : Addr) (L : List V), vs = [ve, vc, .ref l] ∧ IsT H e.toT ve ∧ IsT H c.toT vc ∧ H l = some (.lst L) ∧ e.depth < n ∧ L.length + e.size ≤ 100000 ∧
  ∀ H', H' l = some (.lst (L ++ (e.looks c).map V.int)) → Oth [l] H H' → Q (.int (e.val c)) H'
end Pw
namespace Pw
open PySem PySem.Spec PyProof.Rows L2
theorem bo_int : bootBuiltins "int" = some (.type "int") := by decide +kernel
theorem bo_isi : bootBuiltins "isinstance" = some (.builtin "isinstance") := by decide +kernel
theorem bo_tuple : bootBuiltins "tuple" = some (.type "tuple") := by decide +kernel
theorem bo_bool : bootBuiltins "bool" = some (.type "bool") := by decide +kernel
theorem bo_str : bootBuiltins "str" = some (.type "str") := by decide +kernel
/-! ### what the law's own helpers promise -/
def spCell' (K : PySem.W.Frag) : Sp := fun vs H Q _ => ∃ (a : Addr) (ns : List Int) (j : Nat), vs = [.ref a, .int (j : Int)] ∧ SqL K H a (ns.map V.int) ∧ ∀ x : Int, Q (.int x) H
def spDigits (K : PySem.W.Frag) : Sp := fun vs H Q _ => ∃ (a : Addr) (ns : List Int) (i j : Nat), vs = [.ref a, .int (i : Int), .int (j : Int)] ∧ SqL K H a (ns.map V.int) ∧ i ≤ 100 ∧ j ≤ 100 ∧
  ∀ (p : Addr) (H' : Hp) (ds : List Int), H p = none → Oth [] H H' → H' p = some (.lst (ds.map V.int)) → Q (.ref p) H'
/-- the law's box: its digits, how many are drawn, what else stands in it -/
def Box (H : Hp) (b d : Addr) (rest : List V) : Prop := ∃ (ds : List Int) (at' : Nat), H b = some (.lst (.ref d :: .int (at' : Int) :: rest)) ∧ H d = some (.lst (ds.map V.int))
def spDraw : Sp := fun vs H Q _ => ∃ (b d : Addr) (m : Int) (rest : List V), vs = [.ref b, .int m] ∧ 0 < m ∧ Box H b d rest ∧
  ∀ (r : Int) (H' : Hp), 0 ≤ r → r < m → Box H' b d rest → Oth [b] H H' → Q (.int r) H'
theorem Box.new {H : Hp} {b d p : Addr} {rest : List V} {o : HO} (h : Box H b d rest) (n : H p = none) : Box (upd H p o) b d rest := by
  obtain ⟨ds, at', h1, h2⟩ := h
  exact ⟨ds, at', by rw [upd_ne (ne_of_none h1 n)]; exact h1, by rw [upd_ne (ne_of_none h2 n)]; exact h2⟩
theorem Box.put {H : Hp} {b d p : Addr} {rest : List V} {o : HO} (h : Box H b d rest) (nb : b ≠ p) (nd : d ≠ p) : Box (upd H p o) b d rest := by
  obtain ⟨ds, at', h1, h2⟩ := h
  exact ⟨ds, at', by rw [upd_ne nb]; exact h1, by rw [upd_ne nd]; exact h2⟩
theorem Box.is {H : Hp} {b d : Addr} {rest : List V} (h : Box H b d rest) : ∃ xs, H b = some (.lst xs) := by
  obtain ⟨ds, at', h1, h2⟩ := h
  exact ⟨_, h1⟩
theorem Box.nb {H : Hp} {b d p : Addr} {rest : List V} (h : Box H b d rest) (n : H p = none) : b ≠ p := by
  obtain ⟨ds, at', h1, h2⟩ := h
  exact ne_of_none h1 n
theorem Box.nd {H : Hp} {b d p : Addr} {rest : List V} (h : Box H b d rest) (n : H p = none) : d ≠ p := by
  obtain ⟨ds, at', h1, h2⟩ := h
  exact ne_of_none h2 n
theorem Box.oth {S : List Addr} {H H' : Hp} {b d : Addr} {rest : List V} (h : Box H b d rest) (o : Oth S H H') (nb : b ∉ S) (nd : d ∉ S) : Box H' b d rest := by
  obtain ⟨ds, at', h1, h2⟩ := h
  exact ⟨ds, at', o.keep _ _ nb h1, o.keep _ _ nd h2⟩
end Pw
namespace Pw
open PySem PySem.Spec PyProof.Rows L2
/-- data of at most so many levels, no row over 100,000 -/
inductive Dep : Nat → T → Prop
  | non (n : Nat) : Dep (n + 1) .non
  | int (n : Nat) (i : Int) : Dep (n + 1) (.int i)
  | str (n : Nat) (s : Str) : Dep (n + 1) (.str s)
  | tup (n : Nat) (ts : List T) : ts.length ≤ 100000 → (∀ t ∈ ts, Dep n t) → Dep (n + 1) (.tup ts)
def T.ty : T → String
  | .non => "NoneType" | .bl _ => "bool" | .int _ => "int" | .str _ => "str" | .tup _ => "tuple"
theorem IsT.ty {K : PySem.W.Frag} {H : Hp} {t : T} {v : V} (h : IsT H t v) : TyX K H v (.type t.ty) := by
  cases h with
  | non => exact .base .non
  | bl b => exact .base (.bl b)
  | int i => exact .base (.int i)
  | str s => exact .base (.str s)
  | tup e _ _ => exact .base (.tup e)
def spSame (n : Nat) : Sp := fun vs H Q _ => ∃ (t : T) (v u : V), vs = [v, u] ∧ IsT H t v ∧ IsT H t u ∧ Dep n t ∧ Q (.bl true) H
theorem Dep.mono {n m : Nat} {t : T} (h : Dep n t) (l : n ≤ m) : Dep m t := by
  induction h generalizing m with
  | non n => cases m with | zero => omega | succ m => exact .non m
  | int n i => cases m with | zero => omega | succ m => exact .int m i
  | str n s => cases m with | zero => omega | succ m => exact .str m s
  | tup n ts z _ ih => cases m with | zero => omega | succ m => exact .tup m ts z fun t ht => ih t ht (by omega)
theorem kb_NoneType_tuple : kitB "NoneType" "tuple" = some false := by decide +kernel
theorem kb_int_tuple : kitB "int" "tuple" = some false := by decide +kernel
theorem kb_int_bool : kitB "int" "bool" = some false := by decide +kernel
theorem kb_int_int : kitB "int" "int" = some true := by decide +kernel
theorem kb_str_tuple : kitB "str" "tuple" = some false := by decide +kernel
theorem kb_str_bool : kitB "str" "bool" = some false := by decide +kernel
theorem kb_str_int : kitB "str" "int" = some false := by decide +kernel
theorem kb_str_str : kitB "str" "str" = some true := by decide +kernel
theorem kb_tuple_tuple : kitB "tuple" "tuple" = some true := by decide +kernel
end Pw
namespace Pw
open PySem PySem.Spec PyProof.Rows L2
def spWide (n : Nat) : Sp := fun vs H Q _ => ∃ (b dg : Addr) (d : Nat), vs = [.ref b, .int (d : Int)] ∧ d < n ∧ Box H b dg [] ∧
  ∀ (e : E) (v : V) (H' : Hp), e.depth ≤ d → e.size ≤ 3 ^ d → IsT H' e.toT v → Box H' b dg [] → Oth [b] H H' → Q v H'
/-- _law_value: the scope is a list -/
def spLawValue (n : Nat) : Sp := fun vs H Q _ => ∃ (e : E) (c : Sc) (ve : V) (s ac ap as l : Addr) (L : List V), vs = [ve, .ref s, .ref l] ∧ IsT H e.toT ve ∧ H s = some (.lst [.ref ac, .ref ap, .ref as, .int c.index]) ∧
  H ac = some (.tup (c.cells.map V.int)) ∧ H ap = some (.tup (c.props.map V.int)) ∧ H as = some (.tup (c.store.map V.int)) ∧ s ≠ l ∧ H l = some (.lst L) ∧ e.depth < n ∧ L.length + e.size ≤ 100000 ∧
  ∀ H', H' l = some (.lst (L ++ (e.looks c).map V.int)) → Oth [l] H H' → Q (.int (e.val c)) H'
theorem at0 {x : V} {xs : List V} : atI (x :: xs) 0 = some x := atI_nat (j := 0) rfl
theorem at1 {x y : V} {xs : List V} : atI (x :: y :: xs) 1 = some y := atI_nat (j := 1) rfl
theorem at2 {x y z : V} {xs : List V} : atI (x :: y :: z :: xs) 2 = some z := atI_nat (j := 2) rfl
theorem at3 {x y z a : V} {xs : List V} : atI (x :: y :: z :: a :: xs) 3 = some a := atI_nat (j := 3) rfl
theorem at4 {x y z a b : V} {xs : List V} : atI (x :: y :: z :: a :: b :: xs) 4 = some b := atI_nat (j := 4) rfl
theorem at5 {x y z a b c : V} {xs : List V} : atI (x :: y :: z :: a :: b :: c :: xs) 5 = some c := atI_nat (j := 5) rfl
theorem sz {n : Nat} (h : n ≤ 1000 := by exact Nat.le_of_ble_eq_true rfl) : n ≤ sizeLine := Nat.le_of_lt (small1000 h)
theorem iteTd {p A B : Prop} [Decidable p] (hp : p) (h : A) : if decide p = true then A else B := by rw [decide_eq_true hp]; exact iteT h
theorem iteFd {p A B : Prop} [Decidable p] (hp : ¬ p) (h : B) : if decide p = true then A else B := by rw [decide_eq_false hp]; exact iteF h
theorem iteTb {b : Bool} {A B : Prop} (hb : b = true) (h : A) : if b = true then A else B := by rw [hb]; exact iteT h
theorem iteFb {b : Bool} {A B : Prop} (hb : b = false) (h : B) : if b = true then A else B := by rw [hb]; exact iteF h
theorem lt1 {x y w : V} {r : List V} (h : eqV x w = false) : ∀ (m : Nat) (z' : V), m < 1 → (x :: y :: r)[m]? = some z' → eqV z' w = false := fun m z' hm e => by
  obtain rfl : m = 0 := by omega
  cases e
  exact h
theorem lt2 {x y z w : V} {r : List V} (h : eqV x w = false) (h2 : eqV y w = false) : ∀ (m : Nat) (z' : V), m < 2 → (x :: y :: z :: r)[m]? = some z' → eqV z' w = false := fun m z' hm e => by
  rcases (by omega : m = 0 ∨ m = 1) with rfl | rfl
  · cases e; exact h
  · cases e; exact h2
end Pw
namespace Pw
open PySem PySem.Spec PyProof.Rows L2
/-- the i-th pair, made behind the generator's frame at C -/
def PairAt (rows : List (Value × Value)) (C : Addr) (i : Nat) (v : Value) (h : Heap) : Prop :=
  ∃ (a : Addr) (x y : Value), v = .ref a ∧ C < a ∧ rows[i]? = some (x, y) ∧ h.get? a = some { cls := .type "tuple", data := .seq #[x, y] }
theorem PairAt.later {rows : List (Value × Value)} {C : Addr} {i : Nat} {v : Value} {h h' : Heap} (p : PairAt rows C i v h) (k : ∀ b o, C < b → o.cls = .type "tuple" → h.get? b = some o → h'.get? b = some o) : PairAt rows C i v h' := by
  obtain ⟨a, x, y, e, lt, r, g⟩ := p
  exact ⟨a, x, y, e, lt, r, k a _ lt rfl g⟩
def PxY (C : Addr) (fp wr : List Addr) (n₀ : Nat) (rows : List (Value × Value)) : Protocol := fun m s₀ v s kap =>
  PairAt rows C (n₀ - 1 - m) v s.heap ∧ GenSince C wr s₀ s ∧ ∀ s2 : Shared, (∀ b ∈ C :: fp, ∀ o, s.heap.get? b = some o → s2.heap.get? b = some o) → kap (.send .none) s2
abbrev PxEnd (C : Addr) (wr : List Addr) : GenEnd := fun n s₀ r s₁ => r = .ok .next ∧ (n = 0 ∧ GenSince C wr s₀ s₁)
section
variable {prog : Program} {w : World} {A : Around}
/-- what the walked rows are -/
structure RowsAt (items : Array Value) (rows : List (Value × Value)) (fp wr : List Addr) (href : Heap) : Prop where
  at' : ∀ (i : Nat) (v : Value), items[i]? = some v → ∃ (t : Addr) (x y z : Value), v = .ref t ∧ t ∈ fp ∧ t ∉ wr ∧ IsTup href t #[x, y, z] ∧ rows[i]? = some (x, y)
structure NamesAt (cenv : Env) (xa xb xc : Str) : Prop where
  ka : cenv.kindOf xa = some .local
  kb : cenv.kindOf xb = some .local
  kc : cenv.kindOf xc = some .local
  ab : xa ≠ xb
  ac : xa ≠ xc
  bc : xb ≠ xc
  kind : cenv.scope.kind = .function
  co : cenv.scope.isCoroutine = false
  da : (xa == ("__debug__" : Str)) = false
  db : (xb == ("__debug__" : Str)) = false
theorem pair_made {E : Value → Shared → Prop} {s : Shared} {cenv : Env} {xa xb xc : Str} {q1 q2 q3 : Pos} {k1 : Nat} {m : Str → Option Value} {x y : Value} {Q : Value → Shared → Prop} (N : NamesAt cenv xa xb xc) (hn : s.heap.Ns cenv.locals m) (ha : m xa = some x) (hb : m xb = some y)
    (h : Q (.ref s.heap.objs.size) { s with heap := s.heap.push { cls := .type "tuple", data := .seq #[x, y] } }) : wpAny (model prog w) A (eval (.Tuple [.Name xa q1, .Name xb q2] k1 q3) cenv) Q E s := by
  refine wpAny_Tuple_spliced (PyProof.Rows.args_cons (wpAny_Name (wpAny_loadName_local N.kind N.ka hn ha (PyProof.Rows.args_cons (wpAny_Name (wpAny_loadName_local N.kind N.kb hn hb (PyProof.Rows.args_nil ⟨?_, h⟩)) N.db))) N.da))
  show 2 ≤ sizeLine
  decide
theorem seg_pairs {iter : Expr} {xa xb xc : Str} {pa pb pc pt q1 q2 q3 : Pos} {kt k1 : Nat} {scope : Scope} {pos : Pos} {I : Addr} {fp wr : List Addr} {items : Array Value} {rows : List (Value × Value)} {W2 : Nat → Heap → Prop} {cenv : Env}
    (hh : A.handled = none) (W₀ : ∀ A' : Around, A'.handled = none → Walks prog w A' I fp wr items.size (fun i v => items[i]? = some v) W2) (href : Heap) (N : NamesAt cenv xa xb xc) (R : RowsAt items rows fp wr href)
    (hI : ∀ i h, W2 i h → ∃ (o : Obj) (vs : Array Value), h.get? I = some o ∧ o.cls = .type "list_iterator" ∧ o.data = .fields vs) (hCf : cenv.locals ∉ fp) :
    ∀ (k i : Nat) (s₀ s : Shared) (m : Str → Option Value), items.size - i = k → i ≤ items.size → W2 i s.heap → s.heap.Ns cenv.locals m → GenSince cenv.locals wr s₀ s →
      (∀ b ∈ fp, b ∉ wr → ∀ o, href.get? b = some o → s.heap.get? b = some o) →
      Seg (model prog w) A (PxEnd cenv.locals wr) (PxY cenv.locals fp wr items.size rows) (items.size - i) s₀
        (.compLoop (.GeneratorExp (.Tuple [.Name xa q1, .Name xb q2] k1 q3) [⟨.Tuple [.Name xa pa, .Name xb pb, .Name xc pc] kt pt, iter, [], 0⟩] scope pos) 0 (.ref I) .none cenv)
        ((model prog w).den (.compLoop (.GeneratorExp (.Tuple [.Name xa q1, .Name xb q2] k1 q3) [⟨.Tuple [.Name xa pa, .Name xb pb, .Name xc pc] kt pt, iter, [], 0⟩] scope pos) 0 (.ref I) .none cenv)) [] s := by
  have hA : (A.over (.compLoop (.GeneratorExp (.Tuple [.Name xa q1, .Name xb q2] k1 q3) [⟨.Tuple [.Name xa pa, .Name xb pb, .Name xc pc] kt pt, iter, [], 0⟩] scope pos) 0 (.ref I) .none cenv) []).handled = none := hh
  have hCw : cenv.locals ∉ wr := fun z => hCf ((W₀ A hh).sub _ z)
  have hp : (cenv.scope.kind == .class || (cenv.scope.kind == .module && cenv.locals != cenv.globals)) = false := by rw [N.kind]; rfl
  intro k
  induction k with
  | zero =>
    intro i s₀ s m hk hi hst hn hsince hkp
    obtain rfl : i = items.size := by omega
    show Seg _ A _ _ _ s₀ _ ((compTurn (.GeneratorExp (.Tuple [.Name xa q1, .Name xb q2] k1 q3) [⟨.Tuple [.Name xa pa, .Name xb pb, .Name xc pc] kt pt, iter, [], 0⟩] scope pos) 0 (.ref I) .none cenv).onRaise (leaving cenv)) [] s
    rw [compTurn_gen, Sem.onRaise_eq_wrap, hk]
    refine seg_bind_wrap (wpAny_standAt (seg_bind_wrap ((W₀ _ hA).done s _ _ hst fun h' tk hk' => ?_)))
    exact seg_end (.ok .next) ⟨rfl, rfl, hsince.step fun b o _ hw e => hk' b o hw e⟩
  | succ k ih =>
    intro i s₀ s m hk hi hst hn hsince hkp
    have hlt : i < items.size := by omega
    obtain ⟨r, hr⟩ : ∃ r, items.size - i = r + 1 := ⟨items.size - i - 1, by omega⟩
    have hr' : items.size - (i + 1) = r := by omega
    show Seg _ A _ _ _ s₀ _ ((compTurn (.GeneratorExp (.Tuple [.Name xa q1, .Name xb q2] k1 q3) [⟨.Tuple [.Name xa pa, .Name xb pb, .Name xc pc] kt pt, iter, [], 0⟩] scope pos) 0 (.ref I) .none cenv).onRaise (leaving cenv)) [] s
    rw [compTurn_gen, Sem.onRaise_eq_wrap, hr]
    refine seg_bind_wrap (wpAny_standAt (seg_bind_wrap ((W₀ _ hA).item i s _ _ hlt hst fun v h₁ tk₁ hPv hst₁ hk₁ => ?_)))
    obtain ⟨t, x, y, z, rfl, htf, htw, htup, hrow⟩ := R.at' i v hPv
    obtain ⟨oI, vI, eI, cI, dI⟩ := hI _ _ hst₁
    refine seg_bind_wrap (go_of (s := { s with heap := h₁, toks := tk₁ }) (n := "list_iterator") eI cI dI (by decide) ?_)
    have t1 : IsTup h₁ t #[x, y, z] := by
      obtain ⟨o, e, c⟩ := htup
      exact ⟨o, hk₁ t o htw (hkp t htf htw o e), c⟩
    refine seg_bind_wrap (assign_Tuple_tuple (s := { s with heap := h₁, toks := tk₁ }) hA t1 rfl rfl fun h₂ hx₂ => ?_)
    have k2 : ∀ b o, h₁.get? b = some o → h₂.get? b = some o := fun b o e => hx₂ b o (Nat.ne_of_lt (Heap.lt_size e)) e
    have n2 : h₂.Ns cenv.locals m := (hn.at' fun o e => hk₁ _ o hCw e).at' fun o e => k2 _ o e
    refine assignInOrder_cons (wpAny_assign_Name (wpAny_storeName_local N.ka n2 (fun h₃ n3 b3 => ?_) hp))
    refine assignInOrder_cons (wpAny_assign_Name (wpAny_storeName_local N.kb n3 (fun h₄ n4 b4 => ?_) hp))
    refine assignInOrder_cons (wpAny_assign_Name (wpAny_storeName_local N.kc n4 (fun h₅ n5 b5 => assignInOrder_nil ?_) hp))
    have up : ∀ b o, b ≠ cenv.locals → h₁.get? b = some o → h₅.get? b = some o := fun b o hb e => b5.extBut b o hb (b4.extBut b o hb (b3.extBut b o hb (k2 b o e)))
    have hst5 : W2 (i + 1) h₅ := (W₀ A hh).frame _ _ _ hst₁ fun b hb o e => up b o (fun z => hCf (z ▸ hb)) e
    have hkp5 : ∀ b ∈ fp, b ∉ wr → ∀ o, href.get? b = some o → h₅.get? b = some o := fun b hb hw o e => up b o (fun z => hCf (z ▸ hb)) (hk₁ b o hw (hkp b hb hw o e))
    have since5 : GenSince cenv.locals wr s₀ { s with heap := h₅, toks := tk₁ } := hsince.step fun b o hC hw e => up b o hC (hk₁ b o hw e)
    refine seg_bind_wrap ?_
    rw [List.forIn_nil]
    refine wpAny_pure ?_
    simp only [if_true]
    have hy : ∀ v, yieldOut cenv v = yieldValue v := fun v => by simp only [yieldOut, N.co, Bool.false_eq_true, if_false]
    simp only [hy]
    rw [Sem.bind_eq_wrap', Sem.bind_eq_wrap', Sem.wrap_wrap, Sem.wrap_wrap]
    obtain ⟨m5, n5, ha5, hb5⟩ : ∃ m5, h₅.Ns cenv.locals m5 ∧ m5 xa = some x ∧ m5 xb = some y := ⟨_, n5, by simp [N.ab, N.ac], by simp [N.bc]⟩
    refine seg_wrap (pair_made N (m := m5) ?hn ha5 hb5 ?_)
    case hn => exact n5
    have hC5 : cenv.locals < h₅.objs.size := n5.lt
    have new5 : ∀ b o, h₅.get? b = some o → (h₅.push { cls := .type "tuple", data := .seq #[x, y] }).get? b = some o := fun b o e => Heap.get?_push_of_some _ e
    refine seg_at (seg_yield rfl rfl rfl ⟨⟨h₅.objs.size, x, y, rfl, hC5, ?_, Heap.get?_push_size _ rfl⟩, since5.step fun b o _ _ e => new5 b o e, fun s2 hal => ?_⟩)
    · rw [show items.size - 1 - r = i by omega]
      exact hrow
    · have again := ih (i + 1) s2 s2 _ (by omega) hlt ((W₀ A hh).frame _ _ _ hst5 fun b hb o e => hal b (List.mem_cons_of_mem _ hb) o (new5 b o e))
        ((n5.keeps new5).at' fun o e => hal _ List.mem_cons_self o e) (GenSince.refl _ _ _) fun b hb hw o e => hal b (List.mem_cons_of_mem _ hb) o (new5 b o (hkp5 b hb hw o e))
      rw [hr'] at again
      exact seg_again rfl again
end
end Pw
namespace Pw
open PySem PySem.Spec PyProof.Rows L2
section
variable {prog : Program} {w : World} {A : Around}
theorem seg_pairs0 {iter : Expr} {xa xb xc : Str} {pa pb pc pt q1 q2 q3 : Pos} {kt k1 : Nat} {scope : Scope} {pos : Pos} {I : Addr} {fp wr : List Addr} {items : Array Value} {rows : List (Value × Value)} {W2 : Nat → Heap → Prop} {cenv : Env}
    (hh : A.handled = none) (W₀ : ∀ A' : Around, A'.handled = none → Walks prog w A' I fp wr items.size (fun i v => items[i]? = some v) W2) (href : Heap) (N : NamesAt cenv xa xb xc) (R : RowsAt items rows fp wr href)
    (hI : ∀ i h, W2 i h → ∃ (o : Obj) (vs : Array Value), h.get? I = some o ∧ o.cls = .type "list_iterator" ∧ o.data = .fields vs) (hCf : cenv.locals ∉ fp)
    (s₀ s : Shared) (m : Str → Option Value) (hst : W2 0 s.heap) (hn : s.heap.Ns cenv.locals m) (hsince : GenSince cenv.locals wr s₀ s) (hkp : ∀ b ∈ fp, b ∉ wr → ∀ o, href.get? b = some o → s.heap.get? b = some o) :
    Seg (model prog w) A (PxEnd cenv.locals wr) (PxY cenv.locals fp wr items.size rows) items.size s₀
      (.compStart (.GeneratorExp (.Tuple [.Name xa q1, .Name xb q2] k1 q3) [⟨.Tuple [.Name xa pa, .Name xb pb, .Name xc pc] kt pt, iter, [], 0⟩] scope pos) 0 (.ref I) .none cenv)
      ((model prog w).den (.compStart (.GeneratorExp (.Tuple [.Name xa q1, .Name xb q2] k1 q3) [⟨.Tuple [.Name xa pa, .Name xb pb, .Name xc pc] kt pt, iter, [], 0⟩] scope pos) 0 (.ref I) .none cenv)) [] s := by
  have hA : (A.over (.compStart (.GeneratorExp (.Tuple [.Name xa q1, .Name xb q2] k1 q3) [⟨.Tuple [.Name xa pa, .Name xb pb, .Name xc pc] kt pt, iter, [], 0⟩] scope pos) 0 (.ref I) .none cenv) []).handled = none := hh
  have turns := seg_pairs (iter := iter) (pa := pa) (pb := pb) (pc := pc) (pt := pt) (q1 := q1) (q2 := q2) (q3 := q3) (kt := kt) (k1 := k1) (scope := scope) (pos := pos) hh W₀ href N R hI hCf items.size 0 s₀ s m (Nat.sub_zero _) (Nat.zero_le _) hst hn hsince hkp
  rw [Nat.sub_zero] at turns
  show Seg _ A _ _ _ s₀ _ ((compStart (.GeneratorExp (.Tuple [.Name xa q1, .Name xb q2] k1 q3) [⟨.Tuple [.Name xa pa, .Name xb pb, .Name xc pc] kt pt, iter, [], 0⟩] scope pos) 0 (.ref I) .none cenv).onRaise (leaving cenv)) [] s
  unfold compStart
  rw [Sem.onRaise_eq_wrap]
  refine seg_bind_wrap (wpAny_askSetting ?_)
  split
  · exact seg_again rfl turns
  · exact seg_bind_wrap (wpAny_rule (seg_bind_wrap (wpAny_standAt (seg_bind_wrap ((W₀ _ hA).self 0 s _ _ hst (seg_again rfl turns))))))
/-- the generator object at a, j pairs are out -/
def PxAt (prog : Program) (w : World) (A : Around) (a : Addr) (g : Nat) (C : Addr) (fp wr : List Addr) (n : Nat) (rows : List (Value × Value)) (j : Nat) (s : Shared) : Prop :=
  s.heap.IsGen a g ∧ s.heap.NoLimit ∧ ∃ gs, s.gens[g]? = some gs ∧ ∀ s2 : Shared, (∀ b ∈ C :: fp, ∀ o, s.heap.get? b = some o → s2.heap.get? b = some o) →
    gs.Goes (model prog w) A.in1 (PxEnd C wr) (PxY C fp wr n rows) (n - j) (.send .none) s2
/-- a walk whose items are new objects -/
structure WalksP (prog : Program) (w : World) (A : Around) (a : Addr) (fp wr : List Addr) (G : Array GenState → Array GenState → Prop) (n : Nat) (P : Nat → Value → Heap → Prop) (St : Nat → Shared → Prop) : Prop where
  sub : ∀ b ∈ wr, b ∈ fp
  g1 : ∀ x, G x x
  g2 : ∀ x y z, G x y → G y z → G x z
  later : ∀ i v h h', P i v h → (∀ b o, b ∉ wr → o.cls = .type "tuple" → h.get? b = some o → h'.get? b = some o) → P i v h'
  stay : ∀ i (s : Shared) h' tk, St i s → (∀ b ∈ fp, ∀ o, s.heap.get? b = some o → h'.get? b = some o) → St i { s with heap := h', toks := tk }
  next : ∀ i (s : Shared) (Q : Option Value → Shared → Prop) (E : Value → Shared → Prop), i < n → St i s → (∀ v s', P i v s'.heap → St (i + 1) s' → Moved wr G s s' → Q (some v) s') → wpAny (model prog w) A (pyNext (.ref a)) Q E s
  last : ∀ (s : Shared) (Q : Option Value → Shared → Prop) (E : Value → Shared → Prop), St n s → (∀ s', Moved wr G s s' → Q none s') → wpAny (model prog w) A (pyNext (.ref a)) Q E s
  iter : ∀ i (s : Shared) (Q : Value → Shared → Prop) (E : Value → Shared → Prop), St i s → Q (.ref a) s → wpAny (model prog w) A (pyIter (.ref a)) Q E s
theorem WalksP.up {a : Addr} {fp wr : List Addr} {G : Array GenState → Array GenState → Prop} {n : Nat} {P : Nat → Value → Heap → Prop} {St : Nat → Shared → Prop} (W : WalksP prog w A.in1 a fp wr G n P St) : WalksP prog w A a fp wr G n P St :=
  ⟨W.sub, W.g1, W.g2, W.later, W.stay, fun i s Q E h st q => wpAny_of_in1 (W.next i s Q E h st q), fun s Q E st q => wpAny_of_in1 (W.last s Q E st q), fun i s Q E st q => wpAny_of_in1 (W.iter i s Q E st q)⟩
theorem walks_px (hh : A.handled = none) {a : Addr} {g : Nat} {C : Addr} {fp wr : List Addr} {n : Nat} {rows : List (Value × Value)} (haC : a ≠ C) (haf : a ∉ fp) (hsub : ∀ b ∈ wr, b ∈ fp) (hlow : ∀ b ∈ fp, b < C)
    (hroom : A.depth < recursionLimit) (hcs : cStatics ∈ fp) (hcw : cStatics ∉ wr) :
    WalksP prog w A a (a :: C :: fp) (C :: wr) (GenOnlyQ g) n (PairAt rows C) (PxAt prog w A a g C fp wr n rows) where
  sub := fun b hb => by
    rcases List.mem_cons.mp hb with z | z
    · rw [z]; simp
    · exact List.mem_cons_of_mem _ (List.mem_cons_of_mem _ (hsub b z))
  g1 := fun _ => .inl rfl
  g2 := fun _ _ _ x y => x.trans y
  later := fun i v h h' p k => p.later fun b o lt c e => k b o (fun hb => by
    rcases List.mem_cons.mp hb with z | z
    · rw [z] at lt; exact Nat.lt_irrefl _ lt
    · exact Nat.lt_asymm lt (hlow b (hsub b z))) c e
  stay := fun j s h' tk st hk => by
    obtain ⟨⟨o, nm, qn, ho, r⟩, ⟨mc, hns, hnn⟩, gs, hgs, hgo⟩ := st
    exact ⟨⟨o, nm, qn, hk a List.mem_cons_self o ho, r⟩, ⟨mc, hns.at' fun o e => hk cStatics (List.mem_cons_of_mem _ (List.mem_cons_of_mem _ hcs)) o e, hnn⟩, gs, hgs, fun s2 hal => hgo s2 fun b hb o e => hal b hb o (hk b (List.mem_cons_of_mem _ hb) o e)⟩
  next := fun j s Q E hj st hQ => by
    obtain ⟨hg, hl, gs, hgs, hgo⟩ := st
    obtain ⟨m, hm⟩ : ∃ m, n - j = m + 1 := ⟨n - j - 1, by omega⟩
    rw [hm] at hgo
    refine wpAny_with_toks (Nat.le_refl s.toks) ?_
    refine wpAny_pyNext_genexpQ (P := fun n s₀ s₁ => n = 0 ∧ GenSince C wr s₀ s₁) hh hl hroom hg hgs (hgo _ fun _ _ _ e => e) (fun v s₁ gs' hb hv => ?_) (fun s₁ hp h' hk => absurd hp.1 (Nat.succ_ne_zero m))
    obtain ⟨hP, ⟨h₁, tk₁, rfl, hk₁⟩, hkap⟩ := hv
    have hix : n - 1 - (m + 1 - 1) = j := by omega
    rw [hix] at hP
    have haw : a ∉ wr := fun z => haf (hsub a z)
    have hcC : cStatics ≠ C := fun z => Nat.lt_irrefl _ (z ▸ hlow _ hcs)
    have s1 : ((s.setGen g .running).setGen g gs').gens[g]? = some gs' := setGen_self (gs := .running) (setGen_self hgs)
    intro htk
    refine hQ v _ hP ⟨?_, ?_, gs', s1, fun s2 hal => ?_⟩ ⟨fun b o hb' e => hk₁ b o (fun z => hb' (z ▸ List.mem_cons_self)) (fun z => hb' (List.mem_cons_of_mem _ z)) e, GenOnlyQ.of ((GenOnly.setGen s g .running).trans (GenOnly.setGen _ g gs')) s1 hb, rfl, rfl, htk⟩
    · obtain ⟨o, nm, qn, ho, r⟩ := hg
      exact ⟨o, nm, qn, hk₁ a o haC haw ho, r⟩
    · obtain ⟨mc, hns, hnn⟩ := hl
      exact ⟨mc, hns.at' fun o e => hk₁ cStatics o hcC hcw e, hnn⟩
    · rw [show n - (j + 1) = m by omega]
      exact hkap s2 hal
  last := fun s Q E st hQ => by
    obtain ⟨hg, hl, gs, hgs, hgo⟩ := st
    rw [Nat.sub_self] at hgo
    refine wpAny_with_toks (Nat.le_refl s.toks) ?_
    refine wpAny_pyNext_genexpQ (P := fun n s₀ s₁ => n = 0 ∧ GenSince C wr s₀ s₁) hh hl hroom hg hgs (hgo _ fun _ _ _ e => e) (fun v s₁ gs' hb hv => ?_) (fun s₁ hp h' hk => ?_)
    · obtain ⟨_, _, hkap⟩ := hv
      exact (hkap s₁ fun _ _ _ e => e).elim
    · obtain ⟨_, h₁, tk₁, rfl, hk₁⟩ := hp
      have s1 : ((s.setGen g .running).setGen g .finished).gens[g]? = some .finished := setGen_self (gs := .running) (setGen_self hgs)
      intro htk
      exact hQ _ ⟨fun b o hb' e => hk b o (hk₁ b o (fun z => hb' (z ▸ List.mem_cons_self)) (fun z => hb' (List.mem_cons_of_mem _ z)) e), GenOnlyQ.of ((GenOnly.setGen s g .running).trans (GenOnly.setGen _ g .finished)) s1 rfl, rfl, rfl, htk⟩
  iter := fun _ _ _ _ st hQ => wpAny_pyIter_gen st.1 hQ
/-! ### tuple(..) of such a walk -/
abbrev lstO (acc : Array Value) (c : Nat) : Obj := { cls := .type "list", dict := none, data := .seq acc c, slots := #[] }
def AccP (P : Nat → Value → Heap → Prop) (n : Nat) (acc : Array Value) (h : Heap) : Prop := acc.size = n ∧ ∀ i v, acc[i]? = some v → P i v h
theorem AccP.push {P : Nat → Value → Heap → Prop} {n : Nat} {acc : Array Value} {h : Heap} {x : Value} (p : AccP P n acc h) (hx : P n x h) : AccP P (n + 1) (acc.push x) h := by
  refine ⟨by rw [Array.size_push, p.1], fun i v e => ?_⟩
  rw [Array.getElem?_push] at e
  split at e
  · rename_i z
    rw [z, p.1]
    cases e
    exact hx
  · exact p.2 i v e
variable {a : Addr} {fp wr : List Addr} {G : Array GenState → Array GenState → Prop} {n : Nat} {P : Nat → Value → Heap → Prop} {St : Nat → Shared → Prop}
theorem loop_p (W : WalksP prog w A.in1 a fp wr G n P St) (hn : n ≤ sizeLine) (S : Addr) (hSf : S ∉ fp) (res : Value) {R : Result → Shared → Prop} :
    ∀ (k i : Nat) (s : Shared) (acc : Array Value) (c : Nat), n - i = k → i ≤ n → St i s → s.heap.get? S = some (lstO acc c) → AccP P i acc s.heap →
    (∀ s' acc' c', Moved (S :: wr) G s s' → s'.heap.get? S = some (lstO acc' c') → AccP P n acc' s'.heap → R (.ok (.ret res)) s') →
    codeAny (model prog w) A (.builtin "list.extend.loop" ⟨[.ref S, .ref a, res], []⟩) R s := by
  have hSw : S ∉ wr := fun z => hSf (W.sub _ z)
  have more : ∀ b ∈ wr, b ∈ S :: wr := fun b hb => List.mem_cons_of_mem _ hb
  intro k
  induction k with
  | zero =>
    intro i s acc c hk hi st hS hacc hR
    obtain rfl : i = n := by omega
    refine codeAny_builtin F.entry_extend_loop ?_
    rw [Around.under_plainId F.plain_extend_loop _]
    refine wpAny_bind (m := pyNext (.ref a)) (W.last s _ _ st fun s' hm => wpAny_pure ?_)
    exact hR s' acc c (hm.mono more) (hm.heap S _ hSw hS) ⟨hacc.1, fun j v e => W.later j v _ _ (hacc.2 j v e) fun b o hb _ q => hm.heap b o hb q⟩
  | succ k ih =>
    intro i s acc c hk hi st hS hacc hR
    have hlt : i < n := by omega
    refine codeAny_builtin F.entry_extend_loop ?_
    rw [Around.under_plainId F.plain_extend_loop _]
    refine wpAny_bind (m := pyNext (.ref a)) (W.next i s _ _ hlt st fun v s' hP st' hm => ?_)
    have hS' := hm.heap S _ hSw hS
    have acc1 : AccP P i acc s'.heap := ⟨hacc.1, fun j u e => W.later j u _ _ (hacc.2 j u e) fun b o hb _ q => hm.heap b o hb q⟩
    have upd1 : ∀ b o, b ≠ S → s'.heap.get? b = some o → (s'.heap.update S (Obj.mapSeq (·.push v))).get? b = some o := fun b o hb e => (Heap.get?_update_other _ _ (fun z : S = b => hb z.symm)).trans e
    have tup1 : ∀ b o, b ∉ wr → o.cls = .type "tuple" → s'.heap.get? b = some o → (s'.heap.update S (Obj.mapSeq (·.push v))).get? b = some o := fun b o _ hc e => upd1 b o (fun z => by
      rw [z, hS'] at e
      cases e
      exact absurd hc (by intro q; injection q with q; exact absurd q (by decide))) e
    have acc2 : AccP P (i + 1) (acc.push v) (s'.heap.update S (Obj.mapSeq (·.push v))) :=
      AccP.push ⟨acc1.1, fun j u e => W.later j u _ _ (acc1.2 j u e) tup1⟩ (W.later i v _ _ hP tup1)
    show wpAny _ A.in1 (updateSeq S (·.push v) >>= _) _ _ _
    refine wpAny_bind (wpAny_updateSeq hS' rfl (wpAny_pure ⟨plainId_quiet F.plain_extend_loop _, ?_⟩) (by rw [hacc.1]; omega) (by show (acc.push v).size ≤ sizeLine + 1; rw [Array.size_push, hacc.1]; omega))
    refine ih (i + 1) _ (acc.push v) _ (by omega) hlt (W.stay _ s' _ s'.toks st' fun b hb o e => upd1 b o (fun z => hSf (z ▸ hb)) e) (Heap.get?_update_self _ hS' rfl) acc2 fun s2 acc' c' hm2 hS2 hacc2 => ?_
    refine hR s2 acc' c' (Moved.trans W.g2 ((hm.mono more).then_heap (Nat.le_refl _) fun b o hb e => ?_) hm2) hS2 hacc2
    exact upd1 b o (fun z => hb (z ▸ List.mem_cons_self)) e
end
end Pw
namespace Pw
open PySem PySem.Spec PyProof.Rows L2
open AutoSeq1 (wpAny_loadPart')
section
variable {prog : Program} {w : World} {A : Around} {E : Value → Shared → Prop} {s : Shared}
variable {a : Addr} {fp wr : List Addr} {G : Array GenState → Array GenState → Prop} {n : Nat} {P : Nat → Value → Heap → Prop} {St : Nat → Shared → Prop}
theorem collect_p {Q : List Value → Shared → Prop} (W : WalksP prog w A.in1 a fp wr G n P St) (hT : ∀ i s, St i s → s.TypeIs (.ref a) "generator") (st : St 0 s) (hfp : ∀ b ∈ fp, b < s.heap.objs.size) (ha : a ∈ fp) (hn : n ≤ sizeLine)
    (hQ : ∀ s' acc, Moved wr G s s' → AccP P n acc s'.heap → Q acc.toList s') : wpAny (model prog w) A (collect (.ref a)) Q E s := by
  have hSf : s.heap.objs.size ∉ fp := fun z => Nat.lt_irrefl _ (hfp _ z)
  have hSa : s.heap.objs.size ≠ a := fun z => hSf (z ▸ ha)
  unfold collect
  refine wpAny_bind (wpAny_runValue (codeAny_builtin F.entry_proto_collect ?_))
  rw [Around.under_plainId F.plain_proto_collect _]
  refine wpAny_bind (m := newList []) (wpAny_newObj_type (wpAny_pure ⟨plainId_quiet F.plain_list_iadd _, codeAny_builtin F.entry_list_iadd ?_⟩))
  rw [Around.under_plainId F.plain_list_iadd _]
  have st1 := W.stay 0 s (s.heap.push (lstO ([] : List Value).toArray 0)) s.toks st fun b _ o e => Heap.get?_push_of_some _ e
  show wpAny _ A.in1 (Builtin.List.listExtendWith (.ref s.heap.objs.size) (.ref a) (.ref s.heap.objs.size)) _ _ _
  unfold Builtin.List.listExtendWith
  refine wpAny_bind (wpAny_typeOf (hT 0 _ st1) ?_)
  have f1 : Builtin.List.listSameRef (.ref s.heap.objs.size) (.ref a) = false := by simp [Builtin.List.listSameRef, hSa]
  have f2 : (Value.type "generator" == Value.type "list") = false := by decide
  have f3 : (Value.type "generator" == Value.type "tuple") = false := by decide
  simp only [f1, f2, f3, Bool.or_false, Bool.false_eq_true, if_false]
  refine wpAny_bind (W.iter 0 _ _ _ st1 (wpAny_bind (wpAny_holding ?_)))
  unfold Builtin.List.listLengthHint
  refine wpAny_bind (wpAny_specialOf (hT 0 _ st1) F.gen_no_len ?_)
  refine wpAny_bind (m := specialOf (Value.ref a) (Str.ofString "__length_hint__")) (wpAny_specialOf (hT 0 _ st1) F.gen_no_hint (wpAny_pure ?_))
  refine wpAny_bind (m := rule "list.extend.makes-room") (wpAny_rule ?_)
  have g1 : (s.heap.push (lstO ([] : List Value).toArray 0)).get? s.heap.objs.size = some (lstO ([] : List Value).toArray 0) := Heap.get?_push_size _ rfl
  refine wpAny_bind ?_
  refine wpAny_bind (m := updateSeq s.heap.objs.size (·.push .none)) (wpAny_updateSeq g1 rfl ?_)
  have g2 := Heap.get?_update_self (Obj.mapSeq (·.push Value.none)) g1 rfl
  refine wpAny_updateSeq g2 rfl ?_
  have g3 := Heap.get?_update_self (Obj.mapSeq (·.pop)) g2 rfl
  have oth : ∀ b o, b ≠ s.heap.objs.size → (s.heap.push (lstO ([] : List Value).toArray 0)).get? b = some o →
      (((s.heap.push (lstO ([] : List Value).toArray 0)).update s.heap.objs.size (Obj.mapSeq (·.push Value.none))).update s.heap.objs.size (Obj.mapSeq (·.pop))).get? b = some o :=
    fun b o hb e => (Heap.get?_update_other _ _ (Ne.symm hb)).trans ((Heap.get?_update_other _ _ (Ne.symm hb)).trans e)
  refine wpAny_pure ⟨plainId_quiet F.plain_extend_loop _, loop_p W hn _ hSf _ n 0 _ _ _ rfl (Nat.zero_le _)
    (W.stay 0 ({ s with heap := s.heap.push (lstO ([] : List Value).toArray 0) } : Shared) _ s.toks st1 fun b hb o e => oth b o (fun z => hSf (z ▸ hb)) e) g3 ⟨rfl, fun i v e => by simp at e⟩ fun s' acc' c' hm hS' hacc => ?_⟩
  show wpAny _ A (load s.heap.objs.size >>= _) _ _ s'
  refine wpAny_bind (wpAny_load hS' (wpAny_pure ?_))
  refine hQ s' acc' (Moved.drop_new (o := lstO ([] : List Value).toArray 0) (tk := s.toks) (Moved.trans W.g2 ((Moved.refl W.g1).then_heap (Nat.le_refl _) fun b o hb e => ?_) hm) (Nat.le_refl _)) hacc
  exact oth b o (fun z => hb (z ▸ List.mem_cons_self)) e
theorem tuple_new_p {Q : Value → Shared → Prop} (W : WalksP prog w A.in1.in1 a fp wr G n P St) (hT : ∀ i s, St i s → s.TypeIs (.ref a) "generator") (st : St 0 s) (hfp : ∀ b ∈ fp, b < s.heap.objs.size) (ha : a ∈ fp) (hn : n ≤ sizeLine)
    (hQ : ∀ s' acc, Moved wr G s s' → AccP P n acc s'.heap → Q (.ref s'.heap.objs.size) { s' with heap := s'.heap.push { cls := .type "tuple", data := .seq acc } }) :
    codeAny (model prog w) A (.call (.builtin "tuple.__new__") ⟨[.type "tuple", .ref a], []⟩) (wants Q E) s := by
  refine codeAny_of_tree ?_
  refine wpAny_bind (m := checkBuiltinCall "tuple.__new__" ⟨[.type "tuple", .ref a], []⟩) (wpAny_of_eq (F.newCall_tuple_1 _) (wpAny_pure ⟨plainId_quiet F.plain_tuple_new _, codeAny_builtin F.entry_tuple_new ?_⟩))
  rw [Around.under_plainId F.plain_tuple_new _]
  have hsub := sub_tuple_self
  have hinit := init_tuple_lookup
  have hmh := madeHere_tuple
  have tI := hT 0 s st
  wp_walk using wpAny_typeOf tI, collect_p W hT st hfp ha hn
  intro s' acc hm hacc
  show wpAny _ _ (Builtin.Tuple.tupleExact acc.toList.toArray >>= fun v => ret v) _ _ _
  have e : acc.toList.toArray = acc := by simp
  rw [e]
  unfold Builtin.Tuple.tupleExact
  refine wpAny_bind (wpAny_newObj_type (wpAny_pure ?_) (by show acc.size ≤ sizeLine; rw [hacc.1]; exact hn))
  exact hQ s' acc hm hacc
theorem call_tuple_p {Q : Value → Shared → Prop} (W : WalksP prog w A.in1.in1.in1 a fp wr G n P St) (hT : ∀ i s, St i s → s.TypeIs (.ref a) "generator") (st : St 0 s) (hfp : ∀ b ∈ fp, b < s.heap.objs.size) (ha : a ∈ fp) (hn : n ≤ sizeLine)
    (hQ : ∀ s' acc, Moved wr G s s' → AccP P n acc s'.heap → Q (.ref s'.heap.objs.size) { s' with heap := s'.heap.push { cls := .type "tuple", data := .seq acc } }) :
    wpAny (model prog w) A (call (.type "tuple") [.ref a]) Q E s := by
  refine callType_codes (Q₁ := fun obj s₁ => s₁.TypeIs obj "tuple" ∧ Q obj s₁) F.called_tuple (F.typeCall_tuple_1 _) F.entry_object_init
    (tuple_new_p W hT st hfp ha hn fun s' acc hm hacc => ⟨⟨_, Heap.get?_push_size _ rfl, rfl⟩, hQ s' acc hm hacc⟩) fun obj s₁ h₁ => ?_
  exact ⟨h₁.1, F.args_object_init_2 obj _, object_init_meets F.called_tuple.init.lookup F.called_tuple.made (by decide) prog w A.in1 _ s₁ ⟨h₁.1, rfl, h₁.2⟩⟩
end
end Pw
namespace Pw
open PySem PySem.Spec PyProof.Rows L2
section
variable {X : Cx} {pins : List (Addr × Obj)} {σ : L2.St} {H1 H' : Hp} {s s1 : Shared}
def NewTup (n : Nat) (H : Hp) : Prop := ∀ b, n ≤ b → H b = none ∨ ∃ ys, H b = some (.tup ys)
/-- a tuple that stands there already, made behind s1, is tracked from now on -/
theorem track_one (I1 : Inv X pins σ H1 s1) (J : Inv X pins σ H' s) (hN : NewTup s1.heap.objs.size H') {a : Addr} (ha : s1.heap.objs.size ≤ a) {its : List Value} {xs : List V} (e : IsTup s.heap a its.toArray) (r : Vals xs its) (z : xs.length ≤ sizeLine) :
    ∃ H2, Inv X pins σ H2 s ∧ H2 a = some (.tup xs) ∧ (∀ b o, H' b = some o → H2 b = some o) ∧ NewTup s1.heap.objs.size H2 := by
  rcases hN a ha with n | ⟨ys, y⟩
  · have ne : ∀ {b : Addr}, b < s1.heap.objs.size → b ≠ a := fun h q => by rw [q] at h; exact absurd (Nat.lt_of_lt_of_le h ha) (Nat.lt_irrefl _)
    have old : ∀ b o, H' b = some o → upd H' a (.tup xs) b = some o := fun b o q => by rw [upd_ne (ne_of_none q n)]; exact q
    refine ⟨upd H' a (.tup xs), ⟨J.ok, J.os, J.bare, ⟨J.base.keep, J.base.slot, fun b o q hn hx => ?_, J.base.there, fun b ys q => old b _ (J.base.tups b ys q), fun b o u q => old b _ (J.base.frzs b o u q), fun b ps q => ?_⟩, J.loc, J.cell, ?_, fun x c q => ?_, fun p hp => ?_, fun b u q => ?_, J.len⟩, upd_same, old, fun b hb => ?_⟩
    · have lt : b < s1.heap.objs.size := Nat.lt_of_lt_of_le (Heap.lt_size q) I1.sz
      rw [upd_ne (ne lt)]
      exact J.base.free b o q hn hx
    · obtain ⟨more, m⟩ := J.base.tbls b ps q
      exact ⟨more, old b _ m⟩
    · rw [upd_ne (ne I1.lt)]
      exact J.free
    · obtain ⟨v, q2⟩ := I1.cell x c q
      rw [upd_ne (ne q2.lt)]
      exact J.freeC x c q
    · obtain ⟨g1, g2, g3, g4, g5⟩ := J.pin p hp
      refine ⟨g1, ?_, g3, g4, g5⟩
      rw [upd_ne (ne (Heap.lt_size (I1.pin p hp).1))]
      exact g2
    · by_cases hb : b = a
      · subst hb
        rw [upd_same] at q
        cases q
        exact ⟨z, its, r, e⟩
      · rw [upd_ne hb] at q
        exact (J.hok b u q).stay (fun c v _ k => k) (fun c k => old c _ k) fun c ys k => old c _ k
    · by_cases hb2 : b = a
      · exact .inr ⟨xs, by rw [hb2]; exact upd_same⟩
      · rw [upd_ne hb2]
        exact hN b hb
  · obtain ⟨its', r', e', _⟩ := J.tuple (SqT.of y)
    obtain ⟨o, g, c, n, d⟩ := e
    obtain ⟨o', g', c', n', d'⟩ := e'
    rw [g] at g'
    cases g'
    rw [d] at d'
    injection d' with d1 _
    have e3 : its = its' := by simpa using congrArg Array.toList d1
    subst e3
    exact ⟨H', J, by rw [y, r.inj r'], fun b o q => q, hN⟩
/-- rows of three, and what is taken of each -/
def RowsV (H : Hp) (rs : List V) (ps : List (V × V)) : Prop := Paired (fun (r : V) (p : V × V) => ∃ (t : Addr) (z : V), r = .ref t ∧ H t = some (.tup [p.1, p.2, z])) rs ps
def PairsV (H : Hp) (as : List Addr) (ps : List (V × V)) : Prop := Paired (fun (a : Addr) (p : V × V) => H a = some (.tup [p.1, p.2])) as ps
abbrev RelP (p : V × V) (q : Value × Value) : Prop := RelV p.1 q.1 ∧ RelV p.2 q.2
theorem rows_of (I : Inv X pins σ H' s) : ∀ {rs : List V} {ps : List (V × V)} {its : List Value}, RowsV H' rs ps → Vals rs its → ∃ qs : List (Value × Value), Paired RelP ps qs ∧ qs.length = its.length ∧
    ∀ (i : Nat) (v : Value), its[i]? = some v → ∃ (t : Addr) (x y z : Value), v = .ref t ∧ (∃ u, H' t = some u) ∧ IsTup s.heap t #[x, y, z] ∧ qs[i]? = some (x, y)
  | _, _, _, .nil, .nil => ⟨[], .nil, rfl, fun i v h => by simp at h⟩
  | _, _, _, .cons hp pr, .cons rv rr => by
    obtain ⟨qs, h1, h2, h3⟩ := rows_of I pr rr
    obtain ⟨t, z, rfl, ht⟩ := hp
    obtain ⟨its, rt, tp, _⟩ := I.tuple (SqT.of ht)
    cases rt with
    | cons ra rt =>
      cases rt with
      | cons rb rt =>
        cases rt with
        | cons rc rt =>
          cases rt
          rename_i x y w
          refine ⟨(x, y) :: qs, .cons ⟨ra, rb⟩ h1, congrArg (· + 1) h2, fun i v h => ?_⟩
          cases i with
          | zero =>
            cases h
            exact ⟨t, x, y, w, rv, ⟨_, ht⟩, tp, rfl⟩
          | succ i => exact h3 i v h
theorem pairs_get : ∀ {ps : List (V × V)} {qs : List (Value × Value)} {i : Nat} {q : Value × Value}, Paired RelP ps qs → qs[i]? = some q → ∃ p, ps[i]? = some p ∧ RelP p q
  | _, _, _, _, .nil, h => by simp at h
  | _, _, 0, _, .cons r _, h => by cases h; exact ⟨_, rfl, r⟩
  | _, _, i + 1, _, .cons _ t, h => pairs_get (i := i) t h
/-- all the pairs are tracked -/
theorem track_all (I1 : Inv X pins σ H1 s1) {C : Addr} (hC : s1.heap.objs.size ≤ C) : ∀ (ps : List (V × V)) (qs : List (Value × Value)) (vs : List Value) (H' : Hp), Paired RelP ps qs → Inv X pins σ H' s → NewTup s1.heap.objs.size H' → vs.length = qs.length →
    (∀ i v, vs[i]? = some v → PairAt qs C i v s.heap) → ∃ (H2 : Hp) (as : List Addr), Inv X pins σ H2 s ∧ Vals (as.map V.ref) vs ∧ PairsV H2 as ps ∧ (∀ b o, H' b = some o → H2 b = some o) ∧ NewTup s1.heap.objs.size H2
  | [], _, [], H', .nil, J, hN, _, _ => ⟨H', [], J, .nil, .nil, fun _ _ q => q, hN⟩
  | [], _, _ :: _, _, .nil, _, _, hl, _ => by cases hl
  | p :: ps, q :: qs, [], _, _, _, _, hl, _ => by cases hl
  | p :: ps, q :: qs, v :: vs, H', .cons r rr, J, hN, hl, hP => by
    obtain ⟨a, x, y, rfl, lt, e, g⟩ := hP 0 v rfl
    cases e
    obtain ⟨H3, J3, h3, k3, n3⟩ := track_one (xs := [p.1, p.2]) (its := [x, y]) I1 J hN (Nat.le_of_lt (Nat.lt_of_le_of_lt hC lt)) ⟨_, g, rfl, _, rfl⟩ (.cons r.1 (.cons r.2 .nil)) (by show 2 ≤ sizeLine; decide)
    obtain ⟨H4, as, J4, v4, p4, k4, n4⟩ := track_all I1 hC ps qs vs H3 rr J3 n3 (Nat.succ.inj hl) fun i u hu => by
      obtain ⟨a', x', y', e1, e2, e3, e4⟩ := hP (i + 1) u hu
      exact ⟨a', x', y', e1, e2, e3, e4⟩
    exact ⟨H4, a :: as, J4, .cons rfl v4, .cons (k4 _ _ h3) p4, fun b o z => k4 b o (k3 b o z), n4⟩
/-- the generator's own scope -/
structure GenS3 (env : Env) (scope : Scope) (xa xb xc : Str) : Prop where
  kind : scope.kind = .function
  co : scope.isCoroutine = false
  cell : ∀ y ∈ scope.names, y.2 ≠ .cell
  dot : scope.names.lookup (".0" : Str) = some NameKind.local
  la : scope.names.lookup xa = some .local
  lb : scope.names.lookup xb = some .local
  lc : scope.names.lookup xc = some .local
  ab : xa ≠ xb
  ac : xa ≠ xc
  bc : xb ≠ xc
  da : (xa == ("__debug__" : Str)) = false
  db : (xb == ("__debug__" : Str)) = false
  free : ∀ y ∈ scope.names, y.2 = .free → ∃ c, env.cells.lookup y.1 = some c
def tTupGen (K : PySem.W.Frag) (P : Addr) (te : TE) : TE := fun σ H Q => te σ H fun v H1 => ∃ (l : Addr) (rs : List V) (ps : List (V × V)), v = .ref l ∧ SqL K H1 l rs ∧ RowsV H1 rs ps ∧ rs.length ≤ 100000 ∧ GxR.TabG H1 P ∧
  ∀ (H2 : Hp) (q : Addr) (as : List Addr), PairsV H2 as ps → H2 q = some (.tup (as.map V.ref)) → (∀ b o, b ≠ P → H1 b = some o → H2 b = some o) → GxR.TabG H2 P → Q (.ref q) H2
end
end Pw
namespace Pw
open PySem PySem.Spec PyProof.Rows L2
section
variable {X : Cx}
theorem pe_tupGen {c P : Addr} {iter : Expr} {xa xb xc : Str} {p pos gpos pa pb pc pt q1 q2 q3 : Pos} {kt k1 : Nat} {scope : Scope} {te : TE} {k : Nat}
    (hr : Room k X.A) (TB : GxR.TabB X.base X.mg c P) (hcode : X.env.code = .ref c) (S : GenS3 X.env scope xa xb xc) (hg : Gl X "tuple") (hm : X.mg "tuple" = none) (hi : PE X iter te) (hs : ∀ v, genFold iter X.env v = pure v := by intro _; rfl)
    (na : starEach [.GeneratorExp (.Tuple [.Name xa q1, .Name xb q2] k1 q3) [⟨.Tuple [.Name xa pa, .Name xb pb, .Name xc pc] kt pt, iter, [], 0⟩] scope gpos] X.env =
      (false, eval (.GeneratorExp (.Tuple [.Name xa q1, .Name xb q2] k1 q3) [⟨.Tuple [.Name xa pa, .Name xb pb, .Name xc pc] kt pt, iter, [], 0⟩] scope gpos) X.env) :: starEach [] X.env := by rfl) :
    PE X (.Call (.Name "tuple" p) [.GeneratorExp (.Tuple [.Name xa q1, .Name xb q2] k1 q3) [⟨.Tuple [.Name xa pa, .Name xb pb, .Name xc pc] kt pt, iter, [], 0⟩] scope gpos] [] pos) (tTupGen X.K P te) := by
  refine ⟨fun pins s σ H Q I h => ?_⟩
  refine Call_ (ld_blt I hg hm boot_tuple (PyProof.Rows.callWith_type1 (PyProof.Rows.args_cons ?_ na) na))
  refine wpAny_GeneratorExp_make S.co (closure_ok S.free) S.cell S.dot S.kind (by have := hr.dp; omega) ?_ hs
  refine thn (hi.run pins s σ H _ I h) fun xv s1 ⟨v, H1, I1, r1, qq⟩ => ?_
  obtain ⟨l, rs, ps, rfl, hl, hrows, hlen, ⟨tb, hP, htb⟩, qq⟩ := qq
  obtain rfl : xv = Value.ref l := r1
  obtain ⟨its, rv, pl, hz⟩ := I1.list hl
  obtain ⟨qs, rp, lq, hq⟩ := rows_of I1 hrows rv
  have isl := pl.isList
  refine wpAny_pyIter_list isl ?_
  generalize ho : ({ cls := .type "list_iterator", data := .fields #[.ref l, .int 0 0] } : Obj) = o
  have it2 : (s1.heap.push o).IsListIter s1.heap.objs.size l 0 := by
    subst ho
    exact ⟨_, Heap.get?_push_size _ rfl, rfl, rfl⟩
  have l_lt : l < s1.heap.objs.size := by
    obtain ⟨_, e, _⟩ := _root_.id isl
    exact Heap.lt_size e
  have hPs : s1.heap.get? P = some { cls := .none, data := .fields tb } := I1.hok P _ hP
  have P_lt : P < s1.heap.objs.size := Heap.lt_size hPs
  have hP2 : (s1.heap.push o).get? P = some { cls := .none, data := .fields tb } := Heap.get?_push_of_some _ hPs
  have cd : PySem.W.CodeHd (s1.heap.push o) c P := TB.code.keeps fun b u e => Heap.get?_push_of_some _ (I1.bk b u e)
  have lim2 : (s1.heap.push o).NoLimit := I1.nolimit.push o
  have len_its : its.length = rs.length := rv.length.symm
  have rest : ∀ (code : Value) (h3 : Heap) (tk : Nat) (tb' : Array Value), Heap.ExtBut P (s1.heap.push o) h3 → (s1.heap.push o).objs.size ≤ h3.objs.size → h3.get? P = some { cls := .none, data := .fields tb' } → (∃ more, tb' = tb ++ more) → TriplesOk tb'.toList →
      wpAny (model X.prog X.w) X.A (builtinsFor X.env.globals X.env.builtins) (fun bi s4 => ∀ h' : Heap, h'.Ns s4.heap.objs.size (fun y => if y = ".0" then some (.ref s1.heap.objs.size) else none) → Heap.SameBut s4.heap.objs.size (s4.heap.push { cls := .type "frame", data := .dict #[] }) h' →
        wpAny (model X.prog X.w) X.A (spliced (backTo pos (starEach [] X.env))) (fun us s2 => wpAny (model X.prog X.w) X.A (call (.type "tuple") (Value.ref h'.objs.size :: us)) (EP X pins σ Q) X.xe s2) X.xe { s4 with
          gens := s4.gens.push (.fresh (.compStart (.GeneratorExp (.Tuple [.Name xa q1, .Name xb q2] k1 q3) [⟨.Tuple [.Name xa pa, .Name xb pb, .Name xc pc] kt pt, iter, [], 0⟩] scope gpos) 0 (.ref s1.heap.objs.size) .none (genEnv scope (cloFrom X.env.cells scope.names []) s4.heap.objs.size code bi X.env))),
          toks := s4.toks + 1 + 1 + 1,
          heap := h'.push { cls := .type "generator", data := .fields #[.int s4.gens.size 0, .str "<genexpr>" (s4.toks + 1), .str (X.env.qual ++ "<genexpr>") (s4.toks + 1 + 1)] } }) X.xe { s1 with heap := h3, toks := tk } := by
    intro code h3 tk tb' hx hsz hP3 hmore ht3
    obtain ⟨bm, ob, e1, e2, e3, e4, e5, e6, e7, e8⟩ := TB.bm
    have hcP : cStatics ≠ P := fun e => by
      obtain ⟨_, hns, _⟩ := I1.nolimit
      obtain ⟨o', es, ep, ho', hd, _⟩ := hns
      rw [e, hPs] at ho'
      cases ho'
      cases hd
    have c_lt : cStatics < s1.heap.objs.size := let ⟨_, hns, _⟩ := I1.nolimit; hns.lt
    have sz2 : (s1.heap.push o).objs.size = s1.heap.objs.size + 1 := Heap.size_push ..
    have k3 : ∀ b u, b ≠ P → s1.heap.get? b = some u → h3.get? b = some u := fun b u hb e => hx b u hb (Heap.get?_push_of_some _ e)
    refine wpAny_builtinsFor (m := X.mg) (by rw [I1.ok.glob]; exact ((I1.mod.glob.keeps I1.bk).push o).extBut hx TB.gP) e1 e2 (k3 _ _ e4 (I1.bk _ _ e5)) e6 e7 e8 ?_
    intro h' hn' hs'
    have C_ge : s1.heap.objs.size < h3.objs.size := by omega
    have lP : l ≠ P := fun z => by
      obtain ⟨_, e, hc1, _, hd1⟩ := _root_.id isl
      rw [z, hPs] at e
      cases e
      cases hd1
    have l3 : h3.IsList l its.toArray := by
      obtain ⟨ob, e, r⟩ := _root_.id isl
      exact ⟨ob, k3 _ _ lP e, r⟩
    have it3 : h3.IsListIter s1.heap.objs.size l 0 := it2.at fun u e => hx _ u (Nat.ne_of_gt P_lt) e
    have hsz' : h'.objs.size = h3.objs.size + 1 := by
      rw [hs'.1]
      exact Heap.size_push ..
    have k4 : ∀ b u, h3.get? b = some u → h'.get? b = some u := fun b u e => hs'.extBut b u (Nat.ne_of_lt (Heap.lt_size e)) (Heap.get?_push_of_some _ e)
    generalize hgo : ({ cls := .type "generator", data := .fields #[.int ({ s1 with heap := h3, toks := tk } : Shared).gens.size 0, .str "<genexpr>" (({ s1 with heap := h3, toks := tk } : Shared).toks + 1), .str (X.env.qual ++ "<genexpr>") (({ s1 with heap := h3, toks := tk } : Shared).toks + 1 + 1)] } : Obj) = go
    have k5 : ∀ b u, h3.get? b = some u → (h'.push go).get? b = some u := fun b u e => Heap.get?_push_of_some _ (k4 b u e)
    refine PyProof.Rows.args_nil ?_
    -- the walk over the generator
    have hh : X.A.handled = none := hr.hd
    have ne_l : l ≠ s1.heap.objs.size := Nat.ne_of_lt l_lt
    have W0 : ∀ A' : Around, A'.handled = none → Walks X.prog X.w A' s1.heap.objs.size (List.range h3.objs.size) [s1.heap.objs.size] its.toArray.size (fun i v => its.toArray[i]? = some v) (fun i h => h.IsListIter s1.heap.objs.size l i ∧ h.IsList l its.toArray) := fun A' hA =>
      (Walks.list hA _ _ ne_l _).mono_fp fun b hb => by
        rcases List.mem_cons.mp hb with z | z
        · rw [z]; exact List.mem_range.mpr C_ge
        · rcases List.mem_cons.mp z with z | z
          · rw [z]; exact List.mem_range.mpr (Nat.lt_trans l_lt C_ge)
          · cases z
    have hsub : ∀ b ∈ [s1.heap.objs.size], b ∈ List.range h3.objs.size := fun b hb => by
      rw [List.mem_singleton.mp hb]
      exact List.mem_range.mpr C_ge
    have a_ne : h'.objs.size ≠ h3.objs.size := by omega
    have a_nf : h'.objs.size ∉ List.range h3.objs.size := fun z => by have := List.mem_range.mp z; omega
    have W4 := walks_px (prog := X.prog) (w := X.w) (A := X.A.in4) hh (a := h'.objs.size) (g := s1.gens.size) (C := h3.objs.size) (fp := List.range h3.objs.size) (wr := [s1.heap.objs.size]) (n := its.toArray.size) (rows := qs) a_ne a_nf hsub (fun b hb => List.mem_range.mp hb)
      (by have := hr.dp; exact Nat.lt_of_le_of_lt (Nat.le_refl _) (show X.A.depth < recursionLimit by omega)) (List.mem_range.mpr (Nat.lt_trans c_lt C_ge)) (fun z => Nat.ne_of_lt c_lt (List.mem_singleton.mp z))
    have W3 : WalksP X.prog X.w X.A.in1.in1.in1 h'.objs.size (h'.objs.size :: h3.objs.size :: List.range h3.objs.size) (h3.objs.size :: [s1.heap.objs.size]) (GenOnlyQ s1.gens.size) its.toArray.size (PairAt qs h3.objs.size) (PxAt X.prog X.w X.A.in4 h'.objs.size s1.gens.size h3.objs.size (List.range h3.objs.size) [s1.heap.objs.size] its.toArray.size qs) := WalksP.up (A := X.A.in1.in1.in1) W4
    have NA : NamesAt (genEnv scope (cloFrom X.env.cells scope.names []) h3.objs.size code builtinsNs X.env) xa xb xc := ⟨S.la, S.lb, S.lc, S.ab, S.ac, S.bc, S.kind, S.co, S.da, S.db⟩
    have RA : RowsAt its.toArray qs (List.range h3.objs.size) [s1.heap.objs.size] (h'.push go) := ⟨fun i v hv => by
      obtain ⟨t, x, y, z, rfl, ⟨u, hu⟩, tp, e⟩ := hq i v (by simpa using hv)
      have t_lt : t < s1.heap.objs.size := I1.hok.lt hu
      have tP : t ≠ P := fun z' => by
        obtain ⟨o', g, c', _⟩ := tp
        rw [z', hPs] at g
        cases g
        cases c'
      refine ⟨t, x, y, z, rfl, List.mem_range.mpr (Nat.lt_trans t_lt C_ge), fun z' => Nat.ne_of_lt t_lt (List.mem_singleton.mp z'), ?_, e⟩
      obtain ⟨o', g, r⟩ := tp
      exact ⟨o', k5 _ _ (k3 _ _ tP g), r⟩⟩
    have st0 : PxAt X.prog X.w X.A.in4 h'.objs.size s1.gens.size h3.objs.size (List.range h3.objs.size) [s1.heap.objs.size] its.toArray.size qs 0
        { s1 with
          gens := s1.gens.push (.fresh (.compStart (.GeneratorExp (.Tuple [.Name xa q1, .Name xb q2] k1 q3) [⟨.Tuple [.Name xa pa, .Name xb pb, .Name xc pc] kt pt, iter, [], 0⟩] scope gpos) 0 (.ref s1.heap.objs.size) .none (genEnv scope (cloFrom X.env.cells scope.names []) h3.objs.size code builtinsNs X.env))),
          toks := tk + 1 + 1 + 1
          heap := h'.push go } := by
      refine ⟨?_, ((lim2.extBut hx hcP).keeps k5), _, Array.getElem?_push_size .., fun s2 hal => ⟨rfl, ?_⟩⟩
      · subst hgo
        exact ⟨_, _, _, Heap.get?_push_size _ rfl, rfl, rfl, rfl⟩
      · refine seg_pairs0 (A := X.A.in4.in1) (cenv := genEnv scope (cloFrom X.env.cells scope.names []) h3.objs.size code builtinsNs X.env) (m := fun y => if y = ".0" then some (.ref s1.heap.objs.size) else none) hh W0 (h'.push go) NA RA (fun i h q => ?_) (fun z => Nat.lt_irrefl _ (List.mem_range.mp z)) s2 s2 ?_ ?_ (GenSince.refl _ _ _) fun b hb _ ob e => hal b (List.mem_cons_of_mem _ hb) ob e
        · obtain ⟨⟨oI, g, c', d'⟩, _⟩ := q
          exact ⟨oI, _, g, c', d'⟩
        · refine (W0 X.A hh).frame _ _ _ (⟨it3.at fun u e => k5 _ u e, ?_⟩ : (h'.push go).IsListIter s1.heap.objs.size l 0 ∧ (h'.push go).IsList l its.toArray) fun b hb ob e => hal b (List.mem_cons_of_mem _ hb) ob e
          obtain ⟨ob, e, r⟩ := l3
          exact ⟨ob, k5 _ _ e, r⟩
        · exact (hn'.push go).at' fun ob e => hal _ List.mem_cons_self ob e
    refine call_tuple_p W3 (fun i s9 q => q.1.typeIs) st0 (fun b hb => ?_) List.mem_cons_self (by simp only [List.size_toArray]; rw [len_its]; exact Nat.le_trans hlen (by decide)) fun s' acc hmv hacc => ?_
    · show b < (h'.push go).objs.size
      rw [Heap.size_push]
      rcases List.mem_cons.mp hb with z | z
      · rw [z]; exact Nat.lt_succ_self _
      · rcases List.mem_cons.mp z with z | z
        · rw [z, hsz']; exact Nat.lt_succ_of_lt (Nat.lt_succ_self _)
        · have lt : b < h3.objs.size := List.mem_range.mp z
          rw [hsz']; exact Nat.lt_succ_of_lt (Nat.lt_succ_of_lt lt)
    · -- behind it
      obtain ⟨more, em⟩ := hmore
      have nwr : ∀ b u, s1.heap.get? b = some u → b ∉ h3.objs.size :: [s1.heap.objs.size] := fun b u e hb => by
        have lt := Heap.lt_size e
        rcases List.mem_cons.mp hb with z | z
        · rw [z] at lt; exact Nat.lt_asymm lt C_ge
        · rw [List.mem_singleton.mp z] at lt; exact Nat.lt_irrefl _ lt
      have bare : AllBare s'.gens := AllBare.movedS (I1.bare.push rfl) hmv
      have J := GxR.inv_tab (more := more) (h' := s'.heap) (g' := s'.gens) (d' := s'.drawn) (t' := s'.toks) I1 hP (fun b u hb e => hmv.heap b u (nwr b u e) (k5 b u (k3 b u hb e))) (by rw [← em]; exact hmv.heap P _ (nwr P _ hPs) (k5 P _ hP3)) bare
      rw [GxR.sh_eta s1 s' hmv.os] at J
      have nt0 : NewTup s1.heap.objs.size (upd H1 P (.tbl (tb ++ more))) := fun b hb => .inl (by
        rw [upd_ne (fun z => by rw [z] at hb; exact absurd (Nat.lt_of_lt_of_le P_lt hb) (Nat.lt_irrefl _))]
        exact I1.hok.fresh hb)
      have hal : acc.toList.length = qs.length := by
        rw [Array.length_toList, hacc.1, List.size_toArray]
        exact lq.symm
      obtain ⟨H2, as, J2, va, pp, kk, _⟩ := track_all I1 (Nat.le_of_lt C_ge) ps qs acc.toList _ rp J nt0 hal fun i v e => hacc.2 i v (by simpa using e)
      have hf : H2 s'.heap.objs.size = none := J2.hok.fresh (Nat.le_refl _)
      have J3 : Inv X pins σ (upd H2 s'.heap.objs.size (.tup (as.map V.ref))) { s' with heap := s'.heap.push { cls := .type "tuple", data := .seq acc } } :=
        J2.laid (t' := s'.toks) (fun b u e => Heap.get?_push_of_some _ e) (Nat.le_refl _) (show ObjOk X.prog X.w _ _ _ (.tup (as.map V.ref)) from ⟨by
          rw [va.length, Array.length_toList, hacc.1, List.size_toArray, len_its]
          exact Nat.le_trans hlen (by decide), acc.toList, va, ⟨_, Heap.get?_push_size _ rfl, rfl, 0, (by show Data.seq acc 0 = Data.seq acc.toList.toArray 0; rw [Array.toArray_toList])⟩⟩)
      have kp : ∀ b o', H2 b = some o' → upd H2 s'.heap.objs.size (.tup (as.map V.ref)) b = some o' := fun b o' e => by rw [upd_ne (ne_of_none e hf)]; exact e
      refine ⟨V.ref s'.heap.objs.size, _, J3, rfl, qq _ _ as ?_ upd_same (fun b o' hb e => kp b o' (kk b o' (by rw [upd_ne hb]; exact e))) ⟨tb ++ more, kp P _ (kk P _ upd_same), by rw [← em]; exact ht3⟩⟩
      exact Paired.mapP pp fun a p e => kp a _ e
  refine ⟨lim2, ?_⟩
  cases hf : codeAmong gpos tb.toList with
  | none =>
    refine wpAny_genexprCodeX hcode (cd.code hP2 htb) (cd.tab hP2) hf fun c' h3 tk hx hge hlt hco' _ htab' _ => ?_
    obtain ⟨o1, vs, f1, tf, fl, tg, inF, tx, tt, op, _, _, _, _, _, _, _, _, _, htr, _⟩ := hco'
    exact rest _ h3 tk _ hx (Nat.le_trans hge (Nat.le_of_lt hlt)) htab'.2 ⟨_, rfl⟩ htr
  | some cv =>
    refine wpAny_genexprCode_hit hcode (cd.code hP2 htb) hf ?_
    exact rest cv (s1.heap.push o) s1.toks tb (Heap.ExtBut.refl _ _) (Nat.le_refl _) hP2 ⟨#[], by simp⟩ htb
end
end Pw
namespace Pw
open PySem PySem.Spec PyProof.Rows L2
theorem enum_new_tup {v : Value} {o : Obj} {HH : Heap → Prop} (B : Begins v o HH) :
    Meets (Builtin.«enumerate.__new__» ⟨[.type "enumerate", v], []⟩) (fun _ R s => HH s.heap ∧
      R (.ok (.ret (.ref (s.heap.push o).objs.size))) { s with heap := (s.heap.push o).push { cls := .type "enumerate", data := .fields #[.none, .bool false, .ref s.heap.objs.size, rawInt 0, .none, .none] } }) :=
  .of_wp fun prog w A R s h => by
    obtain ⟨hp, g, d, tk, os⟩ := s
    obtain ⟨hB, h⟩ := h
    have isEnum := sub_enumerate
    have begun : ∀ {A' : Around} {E : Value → Shared → Prop} {Q : Value → Shared → Prop}, Q (.ref hp.objs.size) ⟨hp.push o, g, d, tk, os⟩ → wpAny (model prog w) A' (pyIter v) Q E ⟨hp, g, d, tk, os⟩ :=
      fun q => B.iter prog w _ _ ⟨hp, g, d, tk, os⟩ _ hB q
    wp_walk using begun
    refine wpAny_stack_any fun st => wpAny_pure ?_
    split
    · rename_i c _ _ _ _ _
      cases (c == Value.type "enumerate") <;> (wp_walk using begun; exact ⟨_, rfl, h⟩)
    · wp_walk using begun
      exact ⟨_, rfl, h⟩
section
variable {prog : Program} {w : World} {A : Around} {E : Value → Shared → Prop} {s : Shared}
theorem call_enum_tup {t : Addr} {items : Array Value} {Q : Value → Shared → Prop} (hT : IsTup s.heap t items)
    (h : ∀ h', IsEnum h' (s.heap.objs.size + 1) s.heap.objs.size 0 .none → h'.IsTupleIter s.heap.objs.size t 0 → (∀ b o, s.heap.get? b = some o → h'.get? b = some o) → Q (.ref (s.heap.objs.size + 1)) { s with heap := h' }) :
    wpAny (model prog w) A (call (.type "enumerate") [.ref t]) Q E s := by
  refine callType_new F.called_enumerate (by decide) (F.typeCall_enumerate_1 _) (F.newCall_enumerate_1 _) (fun obj => F.args_object_init_2 obj _) F.entry_enumerate_new (enum_new_tup (begins_tuple t items)) ⟨hT, ?_⟩
  generalize ho : ({ cls := .type "tuple_iterator", data := .fields #[.ref t, .int 0 0] } : Obj) = o
  have fr : o.isFreed = false := by subst ho; rfl
  have hz : (s.heap.push o).objs.size = s.heap.objs.size + 1 := Heap.size_push ..
  show _ ∧ _
  rw [hz]
  generalize hq : ({ cls := .type "enumerate", data := .fields #[.none, .bool false, .ref s.heap.objs.size, rawInt 0, .none, .none] } : Obj) = q
  have he : ((s.heap.push o).push q).get? (s.heap.objs.size + 1) = some q := by
    have z := Heap.get?_push_size (s.heap.push o) (o := q) (by subst hq; rfl)
    rw [hz] at z
    exact z
  have he' : IsEnum ((s.heap.push o).push q) (s.heap.objs.size + 1) s.heap.objs.size 0 .none := by subst hq; exact he
  refine ⟨⟨_, he', rfl⟩, h _ he' ?_ fun b ob x => Heap.get?_push_of_some _ (Heap.get?_push_of_some _ x)⟩
  subst ho
  exact ⟨_, Heap.get?_push_of_some _ (Heap.get?_push_size _ rfl), rfl, rfl⟩
end
/-- the tuple at a, its items in new pairs -/
def Itte (K : PySem.W.Frag) (a : Addr) (xs : List V) : It :=
  ⟨fun i H => SqT K H a xs ∧ i < xs.length, fun i H v H' => ∃ T x, v = .ref T ∧ H T = none ∧ H' = upd H T (.tup [.int (i : Nat), x]) ∧ xs[i]? = some x, fun i H => SqT K H a xs ∧ i = xs.length⟩
theorem turn_enumT {P : Program} {w : World} {K : PySem.W.Frag} {elts : List Expr} {kk : Nat} {tpos : Pos} (a e it : Addr) (xs : List V) :
    Turn P w K (.Tuple elts kk tpos) (Itte K a xs) [e, it] e (fun i h => (∃ old, IsEnum h e it ((i : Nat) : Int) old) ∧ h.IsTupleIter it a i ∧ e ≠ it ∧ a ≠ it ∧ a ≠ e) where
  mem := by simp
  obj := fun i h st b hb => by
    obtain ⟨⟨old, he⟩, ⟨o, ho, hc, hd⟩, _⟩ := st
    rcases (by simpa using hb : b = e ∨ b = it) with z | z
    · rw [z]; exact ⟨_, he, fun v q => nomatch q⟩
    · rw [z]; exact ⟨o, ho, fun v q => by rw [hd] at q; cases q⟩
  keep := fun i h h' st k => by
    obtain ⟨⟨old, he⟩, hi, hne⟩ := st
    exact ⟨⟨old, k e (by simp) _ he⟩, hi.at fun o q => k it (by simp) o q, hne⟩
  item := by
    intro X hP hw hK hc i pins s σ H E I hf st hg
    subst hP hw hK
    obtain ⟨⟨old, he⟩, hit, hne, hai, hae⟩ := st
    obtain ⟨hq, hi⟩ := hg
    obtain ⟨its, rv, tp, hz⟩ := I.tuple hq
    have hl := rv.length
    have e_lt : e < s.heap.objs.size := Heap.lt_size he
    have i_lt : it < s.heap.objs.size := by obtain ⟨_, q, _⟩ := hit; exact Heap.lt_size q
    have D := Draws.tuple (prog := X.prog) (w := X.w) (A := X.A.in1) (I.ok.hd hc) it a hai its.toArray
    refine wpAny_pyNext_enum_itemD D he ⟨hit, tp⟩ (by simp only [List.size_toArray]; omega) hne (by simp [hne, hae.symm]) fun u h' tk hu ho st' hT hsz hk => ?_
    obtain ⟨x, hx, ru⟩ : ∃ x, xs[i]? = some x ∧ RelV x u := by
      obtain ⟨u', hu', ru⟩ := rv.get (List.getElem?_eq_getElem hi)
      have hu2 : its[i]? = some u := by simpa using hu
      rw [hu2] at hu'
      cases hu'
      exact ⟨_, List.getElem?_eq_getElem hi, ru⟩
    refine ⟨_, rfl, wpAny_letOwnedTupleGo_enum (s := { s with heap := h', toks := tk + 1 }) ho fun h2 he2 sb => ?_⟩
    have hT2 : h2.get? s.heap.objs.size = some { cls := .type "tuple", data := .seq #[.int i tk, u] } := (sb.2 _ (Nat.ne_of_gt e_lt)).trans hT
    have new : ObjOk X.prog X.w (upd H s.heap.objs.size (.tup [.int (i : Nat), x])) h2 s.heap.objs.size (.tup [.int (i : Nat), x]) :=
      ⟨by show 2 ≤ sizeLine; decide, [.int i tk, u], .cons ⟨_, rfl⟩ (.cons ru .nil), ⟨_, hT2, rfl, _, rfl⟩⟩
    have I1 : Inv X pins σ (upd H s.heap.objs.size (.tup [.int (i : Nat), x])) { s with heap := h2, toks := tk + 1 } :=
      I.turnedNew (ch := [e, it]) (fun b ob hb q => (sb.2 b (fun z => hb (by simp [z]))).trans (hk b ob (fun z => hb (by simp [z])) (fun z => hb (by simp [z])) q)) hf (Nat.le_refl _) new
    refine ⟨.ref s.heap.objs.size, _, I1, rfl, ⟨_, x, rfl, I.hok.fresh (Nat.le_refl _), rfl, hx⟩, ⟨⟨u, ?_⟩, st'.1.at fun o q => (sb.2 it (Ne.symm hne)).trans q, hne, hai, hae⟩, fun b hb => ?_⟩
    · rw [show ((i + 1 : Nat) : Int) = (i : Int) + 1 by omega]
      exact he2
    · have lt : b < s.heap.objs.size := by
        rcases (by simpa using hb : b = e ∨ b = it) with z | z
        · rw [z]; exact e_lt
        · rw [z]; exact i_lt
      rw [upd_ne (Nat.ne_of_lt lt)]
      exact (hf b hb).1
  done := by
    intro X hP hw hK hc i pins s σ H E I hf st hg
    subst hP hw hK
    obtain ⟨⟨old, he⟩, hit, hne, hai, hae⟩ := st
    obtain ⟨hq, rfl⟩ := hg
    obtain ⟨its, rv, tp, hz⟩ := I.tuple hq
    obtain ⟨f0, f1, f2, f3, f4, f5⟩ := hf it (by simp)
    have hl := rv.length
    have D := Draws.tuple (prog := X.prog) (w := X.w) (A := X.A.in1) (I.ok.hd hc) it a hai its.toArray
    have e1 : xs.length = its.toArray.size := by simp only [List.size_toArray]; omega
    rw [e1] at hit he
    exact wpAny_pyNext_enum_endD D he ⟨hit, tp⟩ fun h' eb => ⟨rfl, I.turned (t' := s.toks) (fun b o hb q => eb b o hb q) f0 f1 f3 f4 f5⟩
  self := fun A i s Q E st h => let ⟨⟨_, he⟩, _⟩ := st; wpAny_pyIter_enum he h
def iEnumT (K : PySem.W.Frag) (ta : TA) : TI := fun σ H R => ta σ H fun vs H1 => ∃ a xs, vs = [.ref a] ∧ SqT K H1 a xs ∧ R (Itte K a xs) H1
theorem pi_enumT {X : Cx} {e : Expr} {ta : TA} {p pos tpos : Pos} {elts : List Expr} {kk : Nat} (hg : Gl X "enumerate") (hm : X.mg "enumerate" = none) (ha : PA X [e] ta) (hs : starEach [e] X.env = [(false, eval e X.env)] := by rfl) :
    PI X (.Tuple elts kk tpos) (.Call (.Name "enumerate" p) [e] [] pos) (iEnumT X.K ta) := by
  refine ⟨fun pins s σ H R I h => ?_⟩
  refine Call_ (ld_blt I hg hm boot_enumerate (PyProof.Rows.callWith_type1 (thn (ha.run pos pins s σ H _ I h) fun us s1 ⟨vs, H1, I1, r1, qq⟩ => ?_) hs rfl))
  obtain ⟨a, xs, rfl, hq, q⟩ := qq
  cases r1 with
  | cons r rr =>
    cases rr
    cases r
    obtain ⟨its, rv, tp, hz⟩ := I1.tuple hq
    have a_lt : a < s1.heap.objs.size := tp.lt
    refine call_enum_tup tp fun h' he hit hk => wpAny_pyIter_enum he ?_
    have I2 : Inv X pins σ H1 { s1 with heap := h' } := I1.kept (t' := s1.toks) hk
    refine ⟨s1.heap.objs.size + 1, [s1.heap.objs.size + 1, s1.heap.objs.size], _, _, H1, rfl, I2, turn_enumT a (s1.heap.objs.size + 1) s1.heap.objs.size xs, ⟨⟨.none, he⟩, hit, Nat.succ_ne_self _, Nat.ne_of_lt a_lt, Nat.ne_of_lt (Nat.lt_succ_of_lt a_lt)⟩, fun b hb => ?_, q⟩
    have hle : s1.heap.objs.size ≤ b := by
      rcases (by simpa using hb : b = s1.heap.objs.size + 1 ∨ b = s1.heap.objs.size) with z | z
      · rw [z]; exact Nat.le_add_right _ _
      · rw [z]; exact Nat.le_refl _
    exact I1.fpOk hle (I1.hok.fresh hle)
/-- a for over it -/
theorem for_enumT {K : PySem.W.Frag} {a : Addr} {xs : List V} {g : TG} {tb : TS} {D : Ends} {σ : L2.St} {H : Hp} (Pv : Nat → L2.St → Hp → Prop) (h0 : Pv 0 σ H) (hl : ∀ i σ H, i ≤ xs.length → Pv i σ H → SqT K H a xs)
    (hs : ∀ i x σ H T, xs[i]? = some x → Pv i σ H → H T = none → g (.ref T) σ (upd H T (.tup [.int (i : Nat), x])) fun σ2 H2 => tb { D with nx := Pv (i + 1), ct := Pv (i + 1), bk := D.nx } σ2 H2) (hd : ∀ σ H, Pv xs.length σ H → D.nx σ H) :
    ∃ W : Nat → Nat → L2.St → Hp → Prop, (∃ m, W 0 m σ H) ∧ ∀ i m σ H, W i m σ H →
      ((Itte K a xs).stop i H ∧ D.nx σ H) ∨ ((Itte K a xs).go i H ∧ ∃ N : L2.St → Hp → Prop, (∀ σ' H', N σ' H' → ∃ m', m' < m ∧ W (i + 1) m' σ' H') ∧ ∀ x H', (Itte K a xs).yld i H x H' → g x σ H' fun σ2 H2 => tb { D with nx := N, ct := N, bk := D.nx } σ2 H2) := by
  refine ⟨fun i m σ H => m = xs.length - i ∧ i ≤ xs.length ∧ Pv i σ H, ⟨xs.length, by simp, Nat.zero_le _, h0⟩, ?_⟩
  rintro i m σ H ⟨rfl, hi, p⟩
  have q := hl i σ H hi p
  by_cases lt : i < xs.length
  · refine .inr ⟨⟨q, lt⟩, Pv (i + 1), fun σ' H' p' => ⟨xs.length - (i + 1), by omega, rfl, lt, p'⟩, fun v H' y => ?_⟩
    obtain ⟨T, x, rfl, hT, rfl, hx⟩ := y
    exact hs i x σ H T hx p hT
  · obtain rfl : i = xs.length := by omega
    exact .inl ⟨⟨q, rfl⟩, hd σ H p⟩
end Pw
namespace Pw
open PySem PySem.Spec PyProof.Rows L2
/-! ### templates -/
inductive Tp where
  | text (s : Str) | «show» (e : E)
  | box (tag : Str) (key : Option E) (action : Option Nat) (cs : List Tp)
  | when (e : E) (cs os : List Tp)
  | each (e : E) (cs : List Tp)
  | child (c : Nat) (key : Option E) (props : List E)
  | part (k : Nat) | input (tag : Str) (cell : Nat)
def keyT : Option E → T
  | none => .non
  | some e => e.toT
def actT : Option Nat → T
  | none => .non
  | some n => .int (n : Int)
mutual
def Tp.toT : Tp → T
  | .text s => .tup [.str "text", .str s]
  | .show e => .tup [.str "show", e.toT]
  | .box tag key action cs => .tup [.str "box", .str tag, keyT key, actT action, .tup (Tp.toTs cs)]
  | .when e cs os => .tup [.str "when", e.toT, .tup (Tp.toTs cs), .tup (Tp.toTs os)]
  | .each e cs => .tup [.str "each", e.toT, .tup (Tp.toTs cs)]
  | .child c key props => .tup [.str "child", .int (c : Int), keyT key, .tup (props.map E.toT)]
  | .part k => .tup [.str "part", .int (k : Int)]
  | .input tag cell => .tup [.str "input", .str tag, .int (cell : Int)]
def Tp.toTs : List Tp → List T
  | [] => []
  | t :: ts => t.toT :: Tp.toTs ts
end
mutual
def Tp.dep : Tp → Nat
  | .box _ _ _ cs | .each _ cs => Tp.deps cs + 1
  | .when _ cs os => max (Tp.deps cs) (Tp.deps os) + 1
  | _ => 0
def Tp.deps : List Tp → Nat
  | [] => 0
  | t :: ts => max t.dep (Tp.deps ts)
end
mutual
def Tp.cnt : Tp → Nat
  | .box _ _ _ cs | .each _ cs => Tp.cnts cs + 1
  | .when _ cs os => Tp.cnts cs + Tp.cnts os + 1
  | _ => 1
def Tp.cnts : List Tp → Nat
  | [] => 0
  | t :: ts => t.cnt + Tp.cnts ts
end
mutual
/-- the expressions are no deeper than 3, the props few -/
def Tp.Fine : Tp → Prop
  | .text _ | .part _ | .input _ _ => True
  | .show e => e.depth ≤ 3
  | .box _ key _ cs => (∀ e ∈ key, e.depth ≤ 3) ∧ Tp.Fines cs
  | .when e cs os => e.depth ≤ 3 ∧ Tp.Fines cs ∧ Tp.Fines os
  | .each e cs => e.depth ≤ 3 ∧ Tp.Fines cs
  | .child _ key props => (∀ e ∈ key, e.depth ≤ 3) ∧ props.length ≤ 10 ∧ ∀ e ∈ props, e.depth ≤ 3
def Tp.Fines : List Tp → Prop
  | [] => True
  | t :: ts => t.Fine ∧ Tp.Fines ts
end
/-- a template with its place and the kinds around it -/
structure Rw where
  place : List Int
  tp : Tp
  ar : List Str
mutual
def Tp.under (pl : List Int) (ar : List Str) : Tp → List Rw
  | .box _ _ _ cs => Tp.lst pl 0 (ar ++ [("box" : Str)]) cs
  | .each _ cs => Tp.lst pl 0 (ar ++ [("each" : Str)]) cs
  | .when _ cs os => Tp.lst (pl ++ [0]) 0 (ar ++ [("when" : Str)]) cs ++ Tp.lst (pl ++ [1]) 0 (ar ++ [("when" : Str)]) os
  | _ => []
def Tp.lst (pl : List Int) (k : Nat) (ar : List Str) : List Tp → List Rw
  | [] => []
  | t :: ts => ⟨pl ++ [(k : Int)], t, ar⟩ :: (t.under (pl ++ [(k : Int)]) ar ++ Tp.lst pl (k + 1) ar ts)
end
mutual
theorem Tp.under_len : ∀ (t : Tp) (pl : List Int) (ar : List Str), (t.under pl ar).length + 1 = t.cnt
  | .box _ _ _ cs, pl, ar => by simp only [Tp.under, Tp.cnt]; rw [Tp.lst_len cs]
  | .each _ cs, pl, ar => by simp only [Tp.under, Tp.cnt]; rw [Tp.lst_len cs]
  | .when _ cs os, pl, ar => by simp only [Tp.under, Tp.cnt, List.length_append]; rw [Tp.lst_len cs, Tp.lst_len os]
  | .text _, pl, ar | .show _, pl, ar | .child _ _ _, pl, ar | .part _, pl, ar | .input _ _, pl, ar => by simp [Tp.under, Tp.cnt]
theorem Tp.lst_len : ∀ (ts : List Tp) (pl : List Int) (k : Nat) (ar : List Str), (Tp.lst pl k ar ts).length = Tp.cnts ts
  | [], pl, k, ar => rfl
  | t :: ts, pl, k, ar => by
    have h := Tp.under_len t (pl ++ [(k : Int)]) ar
    simp only [Tp.lst, Tp.cnts, List.length_cons, List.length_append]
    rw [Tp.lst_len ts]
    omega
end
theorem Tp.toTs_map : ∀ ts : List Tp, Tp.toTs ts = ts.map Tp.toT
  | [] => rfl
  | t :: ts => by rw [Tp.toTs, Tp.toTs_map ts]; rfl
theorem Tp.cnt_pos (t : Tp) : 1 ≤ t.cnt := by cases t <;> simp [Tp.cnt]
theorem Tp.cnts_len : ∀ ts : List Tp, ts.length ≤ Tp.cnts ts
  | [] => Nat.le_refl _
  | t :: ts => by
    have := Tp.cnt_pos t
    have := Tp.cnts_len ts
    simp only [List.length_cons, Tp.cnts]
    omega
theorem Tp.lst_app : ∀ (ts us : List Tp) (pl : List Int) (k : Nat) (ar : List Str), Tp.lst pl k ar (ts ++ us) = Tp.lst pl k ar ts ++ Tp.lst pl (k + ts.length) ar us
  | [], us, pl, k, ar => rfl
  | t :: ts, us, pl, k, ar => by
    simp only [List.cons_append, Tp.lst, Tp.lst_app ts us, List.append_assoc, List.length_cons]
    rw [show k + 1 + ts.length = k + (ts.length + 1) by omega]
/-! ### how deep the data are -/
theorem E.dep : ∀ e : E, Dep (e.depth + 2) e.toT
  | .num n => .tup _ _ (by simp) (by simp; exact ⟨.str _ _, .int _ _⟩)
  | .cell i => .tup _ _ (by simp) (by simp; exact ⟨.str _ _, .int _ _⟩)
  | .prop i => .tup _ _ (by simp) (by simp; exact ⟨.str _ _, .int _ _⟩)
  | .store i => .tup _ _ (by simp) (by simp; exact ⟨.str _ _, .int _ _⟩)
  | .index => .tup _ _ (by simp) (by simp; exact .str _ _)
  | .plus a b => .tup _ _ (by simp) (by simp; exact ⟨.str _ _, (E.dep a).mono (by simp only [E.depth]; omega), (E.dep b).mono (by simp only [E.depth]; omega)⟩)
  | .minus a b => .tup _ _ (by simp) (by simp; exact ⟨.str _ _, (E.dep a).mono (by simp only [E.depth]; omega), (E.dep b).mono (by simp only [E.depth]; omega)⟩)
  | .same a b => .tup _ _ (by simp) (by simp; exact ⟨.str _ _, (E.dep a).mono (by simp only [E.depth]; omega), (E.dep b).mono (by simp only [E.depth]; omega)⟩)
  | .less a b => .tup _ _ (by simp) (by simp; exact ⟨.str _ _, (E.dep a).mono (by simp only [E.depth]; omega), (E.dep b).mono (by simp only [E.depth]; omega)⟩)
  | .ite c a b => .tup _ _ (by simp) (by simp; exact ⟨.str _ _, (E.dep c).mono (by simp only [E.depth]; omega), (E.dep a).mono (by simp only [E.depth]; omega), (E.dep b).mono (by simp only [E.depth]; omega)⟩)
theorem E.dep5 {e : E} (h : e.depth ≤ 3) (n : Nat) : Dep (5 + n) e.toT := (E.dep e).mono (by omega)
theorem key_dep {k : Option E} (h : ∀ e ∈ k, e.depth ≤ 3) (n : Nat) : Dep (5 + n) (keyT k) := by
  cases k with
  | none => rw [Nat.add_comm]; exact .non _
  | some e => exact E.dep5 (h e rfl) n
theorem act_dep (k : Option Nat) (n : Nat) : Dep (5 + n) (actT k) := by
  rw [Nat.add_comm]
  cases k with
  | none => exact .non _
  | some e => exact .int _ _
mutual
theorem Tp.dep_ok : ∀ t : Tp, t.Fine → t.cnt ≤ 5000 → Dep (6 + 2 * t.dep + 1) t.toT
  | .text s, h, hc => .tup _ _ (by simp) (by simp; exact ⟨.str _ _, .str _ _⟩)
  | .show e, h, hc => .tup _ _ (by simp) (by simp; exact ⟨.str _ _, (E.dep5 h 1).mono (by omega)⟩)
  | .box tag key a cs, h, hc => by
    simp only [Tp.cnt] at hc
    have q := Tp.deps_ok cs h.2 (by omega)
    refine .tup _ _ (by simp) ?_
    simp only [List.mem_cons, List.not_mem_nil, or_false, forall_eq_or_imp, forall_eq, Tp.dep]
    exact ⟨.str _ _, .str _ _, (key_dep h.1 0).mono (by omega), (act_dep a 0).mono (by omega), q.mono (by omega)⟩
  | .when e cs os, h, hc => by
    simp only [Tp.cnt] at hc
    have q1 := Tp.deps_ok cs h.2.1 (by omega)
    have q2 := Tp.deps_ok os h.2.2 (by omega)
    refine .tup _ _ (by simp) ?_
    simp only [List.mem_cons, List.not_mem_nil, or_false, forall_eq_or_imp, forall_eq, Tp.dep]
    exact ⟨.str _ _, (E.dep5 h.1 0).mono (by omega), q1.mono (by omega), q2.mono (by omega)⟩
  | .each e cs, h, hc => by
    simp only [Tp.cnt] at hc
    have q := Tp.deps_ok cs h.2 (by omega)
    refine .tup _ _ (by simp) ?_
    simp only [List.mem_cons, List.not_mem_nil, or_false, forall_eq_or_imp, forall_eq, Tp.dep]
    exact ⟨.str _ _, (E.dep5 h.1 0).mono (by omega), q.mono (by omega)⟩
  | .child c key props, h, hc => by
    refine .tup _ _ (by simp) ?_
    simp only [List.mem_cons, List.not_mem_nil, or_false, forall_eq_or_imp, forall_eq]
    refine ⟨.str _ _, .int _ _, (key_dep h.1 1).mono (by omega), .tup 5 _ (by rw [List.length_map]; have := h.2.1; omega) fun t ht => ?_⟩
    obtain ⟨e, he, rfl⟩ := List.mem_map.mp ht
    exact E.dep5 (h.2.2 e he) 0
  | .part k, h, hc => .tup _ _ (by simp) (by simp; exact ⟨.str _ _, .int _ _⟩)
  | .input tag c, h, hc => .tup _ _ (by simp) (by simp; exact ⟨.str _ _, .str _ _, .int _ _⟩)
theorem Tp.deps_ok : ∀ ts : List Tp, Tp.Fines ts → Tp.cnts ts ≤ 5000 → Dep (6 + 2 * Tp.deps ts + 2) (.tup (Tp.toTs ts))
  | [], h, hc => .tup _ _ (by simp [Tp.toTs]) (by simp [Tp.toTs])
  | t :: ts, h, hc => by
    have z := Tp.cnts_len ts
    simp only [Tp.cnts] at hc
    have q1 := Tp.dep_ok t h.1 (by omega)
    have q2 := Tp.deps_ok ts h.2 (by omega)
    cases q2 with
    | tup _ _ l q2 =>
      refine .tup _ _ (by simp only [Tp.toTs, List.length_cons, Tp.toTs_map, List.length_map]; omega) ?_
      simp only [Tp.toTs, List.mem_cons, Tp.deps]
      rintro u (rfl | hu)
      · exact q1.mono (by omega)
      · exact (q2 u hu).mono (by omega)
end
/-! ### tuples added -/
theorem cat_t {K : PySem.W.Frag} {H : Hp} {a b : Addr} {xs ys : List V} {Q : VK} (ha : H a = some (.tup xs)) (hb : H b = some (.tup ys)) (hz : xs.length + ys.length ≤ 100000)
    (q : ∀ (c : Addr) (H' : Hp), Oth [] H H' → H' c = some (.tup (xs ++ ys)) → Q (.ref c) H') : rCatA K (.ref a) (.ref b) H Q := by
  refine ⟨a, b, xs, ys, rfl, rfl, SqT.of ha, SqT.of hb, Nat.le_trans hz (by decide), fun e => ?_, fun _ e => ?_, fun _ _ p hp => ?_⟩
  · exact q b H Oth.refl (by rw [e]; exact hb)
  · exact q a H Oth.refl (by rw [e, List.append_nil]; exact ha)
  · exact q p _ (Oth.new hp) upd_same
end Pw
namespace Pw
open PySem PySem.Spec PyProof.Rows L2
/-! ### the rows of contents -/
def Tp.kind : Tp → Str
  | .text _ => "text" | .show _ => "show" | .box .. => "box" | .when .. => "when" | .each .. => "each" | .child .. => "child" | .part _ => "part" | .input .. => "input"
def Tp.withins : Tp → List (List Int × List Tp)
  | .box _ _ _ cs => [([], cs)]
  | .each _ cs => [([], cs)]
  | .when _ cs os => [([0], cs), ([1], os)]
  | _ => []
def Tp.rowsOf (pl : List Int) (ar : List Str) (k : Str) : List (List Int × List Tp) → List Rw
  | [] => []
  | p :: r => Tp.lst (pl ++ p.1) 0 (ar ++ [k]) p.2 ++ Tp.rowsOf pl ar k r
theorem Tp.under_eq (t : Tp) (pl : List Int) (ar : List Str) : t.under pl ar = Tp.rowsOf pl ar t.kind t.withins := by
  cases t <;> simp [Tp.under, Tp.withins, Tp.rowsOf, Tp.kind]
theorem Tp.rowsOf_app (pl : List Int) (ar : List Str) (k : Str) : ∀ (a b : List (List Int × List Tp)), Tp.rowsOf pl ar k (a ++ b) = Tp.rowsOf pl ar k a ++ Tp.rowsOf pl ar k b
  | [], b => rfl
  | p :: a, b => by simp only [List.cons_append, Tp.rowsOf, Tp.rowsOf_app pl ar k a b, List.append_assoc]
def pairT (p : List Int × List Tp) : T := .tup [.tup (p.1.map .int), .tup (Tp.toTs p.2)]
theorem Tp.withins_dep (t : Tp) : ∀ p ∈ t.withins, Tp.deps p.2 < t.dep := by
  cases t <;> simp [Tp.withins, Tp.dep] <;> omega
theorem Tp.withins_cnt (t : Tp) : ∀ p ∈ t.withins, Tp.cnts p.2 < t.cnt := by
  cases t <;> simp [Tp.withins, Tp.cnt] <;> omega
theorem Tp.withins_len (t : Tp) : t.withins.length ≤ 2 ∧ ∀ p ∈ t.withins, p.1.length ≤ 1 := by
  cases t <;> simp [Tp.withins]
/-- every template is a tuple that begins with its kind -/
theorem Tp.kindAt {H : Hp} {v : V} : ∀ (t : Tp), IsT H t.toT v → ∃ a r, v = .ref a ∧ H a = some (.tup (.str t.kind :: r))
  | .text _, h => by obtain ⟨a, _, x, rfl, e, p, _⟩ := IsT.inv2 h; rw [p.of_str] at e; exact ⟨a, _, rfl, e⟩
  | .show _, h => by obtain ⟨a, _, x, rfl, e, p, _⟩ := IsT.inv2 h; rw [p.of_str] at e; exact ⟨a, _, rfl, e⟩
  | .box .., h => by obtain ⟨a, _, x, y, z, u, rfl, e, p, _⟩ := IsT.inv5 h; rw [p.of_str] at e; exact ⟨a, _, rfl, e⟩
  | .when .., h => by obtain ⟨a, _, x, y, z, rfl, e, p, _⟩ := IsT.inv4 h; rw [p.of_str] at e; exact ⟨a, _, rfl, e⟩
  | .each .., h => by obtain ⟨a, _, x, y, rfl, e, p, _⟩ := IsT.inv3 h; rw [p.of_str] at e; exact ⟨a, _, rfl, e⟩
  | .child .., h => by obtain ⟨a, _, x, y, z, rfl, e, p, _⟩ := IsT.inv4 h; rw [p.of_str] at e; exact ⟨a, _, rfl, e⟩
  | .part _, h => by obtain ⟨a, _, x, rfl, e, p, _⟩ := IsT.inv2 h; rw [p.of_str] at e; exact ⟨a, _, rfl, e⟩
  | .input .., h => by obtain ⟨a, _, x, y, rfl, e, p, _⟩ := IsT.inv3 h; rw [p.of_str] at e; exact ⟨a, _, rfl, e⟩
def spWithin : Sp := fun vs H Q _ => ∃ (t : Tp) (v : V), vs = [v] ∧ IsT H t.toT v ∧ ∀ r H', IsT H' (.tup (t.withins.map pairT)) r → Oth [] H H' → Q r H'
def rowT (r : Rw) : T := .tup [.tup (r.place.map .int), r.tp.toT, .tup (r.ar.map .str)]
def RowsT (H : Hp) (rows : List Rw) (vs : List V) : Prop := Paired (fun r v => IsT H (rowT r) v) rows vs
theorem RowsT.oth {H H' : Hp} {S : List Addr} (o : Oth S H H') : ∀ {rows : List Rw} {vs : List V}, RowsT H rows vs → RowsT H' rows vs
  | _, _, .nil => .nil
  | _, _, .cons h t => .cons (h.oth o) (RowsT.oth o t)
theorem RowsT.len {H : Hp} : ∀ {rows : List Rw} {vs : List V}, RowsT H rows vs → vs.length = rows.length
  | _, _, .nil => rfl
  | _, _, .cons _ t => congrArg (· + 1) (RowsT.len t)
def spWalk (n : Nat) : Sp := fun vs H Q _ => ∃ (ts : List Tp) (pl : List Int) (ar : List Str) (vc vb va : V), vs = [vc, vb, va] ∧ IsT H (.tup (Tp.toTs ts)) vc ∧ IsT H (.tup (pl.map .int)) vb ∧ IsT H (.tup (ar.map .str)) va ∧
  Tp.deps ts < n ∧ Tp.cnts ts ≤ 5000 ∧ pl.length + 2 * n ≤ 1000 ∧ ar.length + n ≤ 1000 ∧
  ∀ (p : Addr) (H' : Hp) (rs : List V), H p = none → Oth [] H H' → H' p = some (.lst rs) → RowsT H' (Tp.lst pl 0 ar ts) rs → Q (.ref p) H'
theorem strs_paired {H : Hp} : ∀ (ns : List Str), Paired (IsT H) (ns.map T.str) (ns.map V.str)
  | [] => .nil
  | n :: ns => .cons (.str n) (strs_paired ns)
theorem paired_strs {H : Hp} : ∀ {ns : List Str} {xs : List V}, Paired (IsT H) (ns.map T.str) xs → xs = ns.map V.str
  | [], _, .nil => rfl
  | n :: ns, _, .cons r q => by cases r; rw [paired_strs q]; rfl
theorem IsT.strs {H : Hp} {v : V} {ns : List Str} (h : IsT H (.tup (ns.map T.str)) v) : ∃ a, v = .ref a ∧ H a = some (.tup (ns.map V.str)) := by
  obtain ⟨a, xs, rfl, e, p⟩ := h.inv
  rw [paired_strs p] at e
  exact ⟨a, rfl, e⟩
theorem IsT.mkInts {H : Hp} {a : Addr} {ns : List Int} (e : H a = some (.tup (ns.map V.int))) : IsT H (.tup (ns.map .int)) (.ref a) := .mk e (int_paired ns)
theorem IsT.mkStrs {H : Hp} {a : Addr} {ns : List Str} (e : H a = some (.tup (ns.map V.str))) : IsT H (.tup (ns.map .str)) (.ref a) := .mk e (strs_paired ns)
theorem take_succ {α : Type} {l : List α} {i : Nat} {x : α} (h : l[i]? = some x) : l.take (i + 1) = l.take i ++ [x] := by
  rw [List.take_add_one, h]
  rfl
end Pw
namespace Pw
open PySem PySem.Spec PyProof.Rows L2
/-! ### a def with its own code object -/
def CodeAt (K : PySem.W.Frag) (x : Str) (st : Stmt) (f : Addr) (fd : FuncData) (c : Addr) : Prop :=
  ∃ (oc kV doc pm ct : Value) (od an : Option Addr) (osl : Array (Option Value)), fd = PySem.W.fnOf x x (defArgs st) (defBody st) (defScope st) .none kV doc pm an (.ref c) ct ∧ K.lookup f = some ⟨oc, od, .func fd, osl⟩ ∧ PySem.W.codeIn K (.ref c) x = true ∧ PySem.W.keepIn K (.ref f) = true
theorem CodeAt.plain {K : PySem.W.Frag} {x : Str} {st : Stmt} {f c : Addr} {fd : FuncData} (C : CodeAt K x st f fd c) : Fun K x x st f fd := by
  obtain ⟨oc, kV, doc, pm, ct, od, an, osl, e, lk, hcd, kp⟩ := C
  exact ⟨⟨oc, od, kV, doc, pm, an, _, ct, osl, e, lk, hcd⟩, kp⟩
theorem CodeAt.ok {P : Program} {w : World} {K : PySem.W.Frag} {mg : Str → Option Value} {base : Heap} {x : Str} {st : Stmt} {f c : Addr} {fd : FuncData} {N ps : List Str} {k : Nat} {sp : Sp} (C : CodeAt K x st f fd c) (S : FnScope N ps (defScope st))
    (hlen : ∀ vs H Q E, sp vs H Q E → vs.length = ps.length)
    (hb : ∀ (A : Around) (outer : List Env) (s : Shared) (H : Hp) (vs : List V) (Q : VK) (E : XK), Room k (A.deeper (envOfC x (defScope st) s.heap.objs.size f (.ref c))) → sp vs H Q E →
      ∃ t, PSs (cxOf CX0 P w K mg base N x (defScope st) f (.ref c) A outer s H E).nox (defBody st) t ∧ t { nx := fun _ H' => Q .non H', rt := Q } (start N vs) H) : FnOk P w K mg base CX0 (k + 1) f fd ps sp := by
  obtain ⟨oc, kV, doc, pm, ct, od, an, osl, rfl, lk, hcd, _⟩ := C
  refine fn_of lk hcd S hlen fun A outer s H vs Q E hr hsp => ?_
  obtain ⟨t, h, q⟩ := hb A outer s H vs Q E hr hsp
  exact ⟨t, h.nox, q⟩
/-! ### the end, with the table of one def -/
def TabAt (K : PySem.W.Frag) (f : Addr) (h : Heap) : Prop := ∀ (c P : Addr) (o : Obj) (fd : FuncData) (e : Value) (dd : Option Addr) (vs : Array Value) (sl : Array (Option Value)),
  K.lookup f = some o → o.data = .func fd → fd.code = .ref c → K.lookup c = some ⟨e, dd, .fields vs, sl⟩ → vs[11]? = some (.ref P) → h.get? P = some { cls := .none, data := .fields #[] } ∧ PySem.W.CodeHd h c P
theorem walk_tab {l : PySem.W.OpenLaw} {n k : Nat} {q : Program} {loose : List Str} {XP : (Str → Option Value) → Heap → Prop} {YP : World → Heap → Prop} {d : DefRec} {K : Params → PySem.W.Frag} {x nm : Str}
    (hn : l.most = some n) (hn2 : n ≤ sizeLine) (hdf : d.params.defaults = []) (hr : Room k callerA) (hrec : ((recsOf q).any fun e => e.name == nm) = true) (hY : ∀ (w : World) (h : Heap), YP w h → (K w.params).In h)
    (F : ∀ (w : World) (mg : Str → Option Value) (fa f : Addr) (h : Heap), (K w.params).In h → h.Ns mainGlobals mg → mg d.name = some (.ref fa) → mg nm = some (.ref f) → TabAt (K w.params) f h → LamX.LawAtS l w (K w.params) CX0 k n x mg fa h) :
    PySem.W.WalkO q loose XP YP l.row.toRowW d [] (fun f vs => PySem.call f vs) := by
  refine Att.attach_callB hn hdf fun w s0 s1 mg mb fa o pm cd doc a vs ns G Y ho hd hcd hmg hobj hints hlen hbits hg => ?_
  have KX := hY w _ Y
  obtain ⟨e, em, en⟩ := List.any_eq_true.mp hrec
  obtain ⟨f, o', fd', c', P', h1, h2, h3, h4, h5, h6⟩ := G.T.tab e em
  rw [beq_iff_eq.mp en] at h1
  have own : TabAt (K w.params) f s1.heap := by
    intro c P o1 fd1 ee dd vs1 sl k1 k2 k3 k4 k5
    have g1 := KX _ _ k1
    rw [h2] at g1
    cases g1
    rw [h3] at k2
    cases k2
    rw [h4] at k3
    cases k3
    have cd := PySem.W.CodeHd.of h5 h6
    obtain ⟨⟨oc, vc, e1, e2, e3, e4⟩, hP⟩ := h6
    have g2 := KX _ _ k4
    rw [e1] at g2
    cases g2
    cases e3
    rw [e4] at k5
    cases k5
    exact ⟨hP, cd⟩
  obtain ⟨fd, cs, sp, hT, nT, C, hb, hsp, hF⟩ := F w mg fa f _ KX G.T.g hmg h1 own
  exact LamX.law_callTs KX G.T.g G.T.b G.T.builtins G.T.nolimit hg hT nT C G.T.bmain hobj hints (Nat.le_trans hlen hn2) hr hF hb (fun H hH hS => hsp H a ns hlen hbits hH hS) fun H e s' z => z
theorem no_free {l : List (Str × NameKind)} (h : (l.all fun y => decide (y.2 ≠ .free)) = true) : ∀ y ∈ l, y.2 ≠ .free := fun y hy => of_decide_eq_true (List.all_eq_true.mp h y hy)
/-! ### the table in the tracked heap -/
theorem TabG.oth {H H' : Hp} {P : Addr} {S : List Addr} (h : GxR.TabG H P) (o : Oth S H H') (hP : P ∉ S) : GxR.TabG H' P := by
  obtain ⟨ps, e, t⟩ := h
  exact ⟨ps, o.keep P _ hP e, t⟩
def pairsT (rows : List Rw) : T := .tup (rows.map fun r => .tup [.tup (r.place.map .int), r.tp.toT])
/-- templates(contents): P is the table of its code object -/
def spTemplates (P : Addr) : Sp := fun vs H Q _ => ∃ (ts : List Tp) (v : V), vs = [v] ∧ IsT H (.tup (Tp.toTs ts)) v ∧ Tp.deps ts < 12 ∧ Tp.cnts ts ≤ 5000 ∧ GxR.TabG H P ∧
  ∀ (r : V) (H' : Hp), IsT H' (pairsT (Tp.lst [] 0 [] ts)) r → Oth [P] H H' → GxR.TabG H' P → Q r H'
theorem rows_split {H : Hp} : ∀ {rows : List Rw} {vs : List V}, RowsT H rows vs → ∃ ps : List (V × V), RowsV H vs ps ∧ Paired (fun (r : Rw) (p : V × V) => IsT H (.tup (r.place.map .int)) p.1 ∧ IsT H r.tp.toT p.2) rows ps
  | _, _, .nil => ⟨[], .nil, .nil⟩
  | _, _, .cons h t => by
    obtain ⟨ps, a, b⟩ := rows_split t
    obtain ⟨ad, x, y, z, rfl, e, p, q, s⟩ := IsT.inv3 h
    exact ⟨(x, y) :: ps, .cons ⟨ad, z, rfl, e⟩ a, .cons ⟨p, q⟩ b⟩
theorem pairs_join {H H2 : Hp} {S : List Addr} (o : Oth S H H2) : ∀ {rows : List Rw} {ps : List (V × V)} {as : List Addr}, Paired (fun (r : Rw) (p : V × V) => IsT H (.tup (r.place.map .int)) p.1 ∧ IsT H r.tp.toT p.2) rows ps → PairsV H2 as ps →
    Paired (IsT H2) (rows.map fun r => T.tup [.tup (r.place.map .int), r.tp.toT]) (as.map V.ref)
  | _, _, _, .nil, .nil => .nil
  | _, _, _, .cons h t, .cons e u => .cons (.mk2 e (h.1.oth o) (h.2.oth o)) (pairs_join o t u)
end Pw
namespace Pw
open PySem PySem.Spec PyProof.Rows L2
def natV (n : Nat) : V := .int (n : Int)
/-- the law's box, its counters and the parts that are left -/
structure Bx (H : Hp) (b d pl : Addr) : Prop where
  box : ∃ n2 n3 n4 : Int, Box H b d [.int n2, .int n3, .int n4, .ref pl]
  parts : ∃ ps : List Nat, H pl = some (.lst (ps.map natV)) ∧ (ps.length ≤ 2 ∧ ∀ n ∈ ps, n < 10)
  nd : pl ≠ d
section
variable {H H' : Hp} {b d pl p : Addr} {S : List Addr} {o : HO}
theorem Bx.get (h : Bx H b d pl) : ∃ (at' : Nat) (n2 n3 n4 : Int), H b = some (.lst [.ref d, .int (at' : Int), .int n2, .int n3, .int n4, .ref pl]) := by
  obtain ⟨⟨n2, n3, n4, ds, at', h1, h2⟩, _, _⟩ := h
  exact ⟨at', n2, n3, n4, h1⟩
theorem Bx.dig (h : Bx H b d pl) : ∃ ds : List Int, H d = some (.lst (ds.map V.int)) := by
  obtain ⟨⟨n2, n3, n4, ds, at', h1, h2⟩, _, _⟩ := h
  exact ⟨ds, h2⟩
theorem Bx.ndb (h : Bx H b d pl) : d ≠ b := by
  intro e
  obtain ⟨at', n2, n3, n4, h1⟩ := h.get
  obtain ⟨ds, h2⟩ := h.dig
  rw [e, h1] at h2
  cases ds with
  | nil => cases h2
  | cons x r => cases h2
theorem Bx.npb (h : Bx H b d pl) : pl ≠ b := by
  intro e
  obtain ⟨at', n2, n3, n4, h1⟩ := h.get
  obtain ⟨ps, h2, _⟩ := h.parts
  rw [e, h1] at h2
  cases ps with
  | nil => cases h2
  | cons x r => cases h2
theorem Bx.put (h : Bx H b d pl) (at' : Nat) (n2 n3 n4 : Int) : Bx (upd H b (.lst [.ref d, .int (at' : Int), .int n2, .int n3, .int n4, .ref pl])) b d pl := by
  obtain ⟨ds, h2⟩ := h.dig
  obtain ⟨ps, h3, h4⟩ := h.parts
  exact ⟨⟨n2, n3, n4, ds, at', upd_same, by rw [upd_ne h.ndb]; exact h2⟩, ⟨ps, by rw [upd_ne h.npb]; exact h3, h4⟩, h.nd⟩
theorem Bx.oth (h : Bx H b d pl) (o : Oth S H H') (nb : b ∉ S) (nd : d ∉ S) (np : pl ∉ S) : Bx H' b d pl := by
  obtain ⟨n2, n3, n4, hb⟩ := h.box
  obtain ⟨ps, h3, h4⟩ := h.parts
  exact ⟨⟨n2, n3, n4, hb.oth o nb nd⟩, ⟨ps, o.keep _ _ np h3, h4⟩, h.nd⟩
theorem Bx.new (h : Bx H b d pl) (n : H p = none) : Bx (upd H p o) b d pl := h.oth (S := []) (Oth.new n) (by simp) (by simp) (by simp)
theorem Bx.is (h : Bx H b d pl) : ∃ xs, H b = some (.lst xs) := let ⟨_, _, _, _, e⟩ := h.get; ⟨_, e⟩
theorem Bx.nb (h : Bx H b d pl) (n : H p = none) : b ≠ p := let ⟨_, _, _, _, e⟩ := h.get; ne_of_none e n
theorem Bx.ndn (h : Bx H b d pl) (n : H p = none) : d ≠ p := let ⟨_, e⟩ := h.dig; ne_of_none e n
theorem Bx.npn (h : Bx H b d pl) (n : H p = none) : pl ≠ p := let ⟨_, e, _⟩ := h.parts; ne_of_none e n
end
theorem Bx.swap {H : Hp} {b d pl q : Addr} (h : Bx H b d pl) (hq : H q = none) (ps : List Nat) (hl : ps.length ≤ 2 ∧ ∀ n ∈ ps, n < 10) (at' : Nat) (n2 n3 n4 : Int) :
    Bx (upd (upd H q (.lst (ps.map natV))) b (.lst [.ref d, .int (at' : Int), .int n2, .int n3, .int n4, .ref q])) b d q := by
  obtain ⟨ds, h2⟩ := h.dig
  exact ⟨⟨n2, n3, n4, ds, at', upd_same, by rw [upd_ne h.ndb, upd_ne (h.ndn hq)]; exact h2⟩, ⟨ps, by rw [upd_ne (h.nb hq).symm]; exact upd_same, hl⟩, (h.ndn hq).symm⟩
theorem Bx.fresh {H H' : Hp} {b d pl p : Addr} (h : Bx H' b d pl) (o : Oth [b] H H') (hp : H' p = none) : H p = none := by
  cases e : H p with
  | none => rfl
  | some x =>
    obtain ⟨xs, hb⟩ := h.is
    by_cases z : p = b
    · rw [z, hb] at hp; cases hp
    · rw [o.keep p _ (by simp [z]) e] at hp; cases hp
theorem bo_max : bootBuiltins "max" = some (.builtin "max") := by decide +kernel
theorem rgV_nat (n : Nat) : rgV 0 (n : Int) = (List.range n).map natV := by
  unfold rgV
  rw [Int.sub_zero, Int.toNat_natCast]
  exact List.map_congr_left fun i _ => by rw [Int.zero_add]; rfl
def spDrawX : Sp := fun vs H Q _ => ∃ (b d pl : Addr) (m : Int), vs = [.ref b, .int m] ∧ 0 < m ∧ Bx H b d pl ∧
  ∀ (r : Int) (H' : Hp), 0 ≤ r → r < m → Bx H' b d pl → Oth [b] H H' → Q (.int r) H'
theorem draw_x {vs : List V} {H : Hp} {Q : VK} {E : XK} (h : spDrawX vs H Q E) : spDraw vs H Q E := by
  obtain ⟨b, d, pl, m, rfl, hm, h, q⟩ := h
  obtain ⟨n2, n3, n4, hb⟩ := h.box
  refine ⟨b, d, m, _, rfl, hm, hb, fun r H' l u hb' o => q r H' l u ?_ o⟩
  obtain ⟨ps, h3, h4⟩ := h.parts
  exact ⟨⟨n2, n3, n4, hb'⟩, ⟨ps, o.keep _ _ (by simp [h.npb]) h3, h4⟩, h.nd⟩
theorem FnOk.weak {P : Program} {w : World} {K : PySem.W.Frag} {mg : Str → Option Value} {base : Heap} {CX : CXT} {k : Nat} {f : Addr} {fd : FuncData} {ps : List Str} {sp sp' : Sp} (o : FnOk P w K mg base CX k f fd ps sp) (h : ∀ vs H Q E, sp' vs H Q E → sp vs H Q E) : FnOk P w K mg base CX k f fd ps sp' :=
  ⟨fun vs H Q E q => o.len _ _ _ _ (h _ _ _ _ q), fun A outer s H args us vs Q E hr e0 hb r q => o.run A outer s H args us vs Q E hr e0 hb r (h _ _ _ _ q)⟩
theorem toTs_app (a b : List Tp) : Tp.toTs (a ++ b) = Tp.toTs a ++ Tp.toTs b := by rw [Tp.toTs_map, Tp.toTs_map, Tp.toTs_map, List.map_append]
theorem deps_app (b : List Tp) : ∀ a : List Tp, Tp.deps (a ++ b) = max (Tp.deps a) (Tp.deps b)
  | [] => by simp [Tp.deps]
  | t :: a => by simp only [List.cons_append, Tp.deps, deps_app b a]; omega
theorem cnts_app (b : List Tp) : ∀ a : List Tp, Tp.cnts (a ++ b) = Tp.cnts a + Tp.cnts b
  | [] => by simp [Tp.cnts]
  | t :: a => by simp only [List.cons_append, Tp.cnts, cnts_app b a]; omega
theorem fines_app {b : List Tp} (hb : Tp.Fines b) : ∀ a : List Tp, Tp.Fines a → Tp.Fines (a ++ b)
  | [], _ => hb
  | t :: a, h => ⟨h.1, fines_app hb a h.2⟩
theorem deps_parts : ∀ us : List Nat, Tp.deps (us.map Tp.part) = 0
  | [] => rfl
  | u :: us => by simp only [List.map_cons, Tp.deps, Tp.dep, deps_parts us]; rfl
theorem cnts_parts : ∀ us : List Nat, Tp.cnts (us.map Tp.part) = us.length
  | [] => rfl
  | u :: us => by simp only [List.map_cons, Tp.cnts, Tp.cnt, cnts_parts us, List.length_cons]; omega
theorem fines_parts : ∀ us : List Nat, Tp.Fines (us.map Tp.part)
  | [] => trivial
  | u :: us => ⟨trivial, fines_parts us⟩
theorem at_mem : ∀ {xs : List V} {r : Int}, 0 ≤ r → r < (xs.length : Int) → ∃ v ∈ xs, atI xs r = some v := by
  intro xs r h0 h1
  obtain ⟨j, rfl⟩ := Int.eq_ofNat_of_zero_le h0
  have hj : j < xs.length := by omega
  exact ⟨xs[j], List.getElem_mem hj, atI_nat (List.getElem?_eq_getElem hj)⟩
theorem Bx.lit {H H1 : Hp} {b d pl l : Addr} {xs : List V} (h : Bx H b d pl) (hl : H l = none) (o : Oth [b] (upd H l (.lst xs)) H1) : H1 l = some (.lst xs) := o.keep l _ (by simp [(h.nb hl).symm]) upd_same
theorem Oth.two {b pl : Addr} {H H' : Hp} (o : Oth [b] H H') : Oth [b, pl] H H' := o.mono (by simp)
def spExpr (n : Nat) : Sp := fun vs H Q _ => ∃ (b dg pl : Addr) (d : Nat), vs = [.ref b, .int (d : Int)] ∧ d < n ∧ Bx H b dg pl ∧
  ∀ (e : E) (v : V) (H' : Hp), e.depth ≤ d → IsT H' e.toT v → Bx H' b dg pl → Oth [b] H H' → Q v H'
def spKey : Sp := fun vs H Q _ => ∃ (b dg pl : Addr), vs = [.ref b] ∧ Bx H b dg pl ∧
  ∀ (k : Option E) (v : V) (H' : Hp), (∀ e ∈ k, e.depth ≤ 1) → IsT H' (keyT k) v → Bx H' b dg pl → Oth [b] H H' → Q v H'
def numT : Nat → Nat
  | 0 => 1
  | r + 1 => 6 * numT r + 1
theorem numT_mono : ∀ r, numT r ≤ numT (r + 1) := fun r => by simp only [numT]; omega
theorem numT_pos : ∀ r, 1 ≤ numT r
  | 0 => Nat.le_refl _
  | r + 1 => by simp only [numT]; omega
def spTemplate (n : Nat) : Sp := fun vs H Q _ => ∃ (b dg pl : Addr) (own level last r : Nat) (free : Bool), vs = [.ref b, .int (own : Int), .int (level : Int), .int (last : Int), .bl free] ∧ level + r = 3 ∧ r < n ∧ Bx H b dg pl ∧
  ∀ (t : Tp) (v : V) (H' : Hp), t.dep ≤ r → t.cnt ≤ numT r → t.Fine → IsT H' t.toT v → Bx H' b dg pl → Oth [b, pl] H H' → Q v H'
def spContents (n : Nat) : Sp := fun vs H Q _ => ∃ (b dg pl : Addr) (own level last r : Nat) (free : Bool), vs = [.ref b, .int (own : Int), .int (level : Int), .int (last : Int), .bl free] ∧ level + r = 3 ∧ r < n ∧ Bx H b dg pl ∧
  ∀ (ts : List Tp) (v : V) (H' : Hp), Tp.deps ts ≤ r → Tp.cnts ts ≤ 3 * numT r → Tp.Fines ts → IsT H' (.tup (Tp.toTs ts)) v → Bx H' b dg pl → Oth [b, pl] H H' → Q v H'
/-- the steps of actions: their kinds are all that is asked -/
def spActions : Sp := fun vs H Q _ => ∃ (b dg pl : Addr), vs = [.ref b] ∧ Bx H b dg pl ∧
  ∀ (v : V) (H' : Hp), Bx H' b dg pl → Oth [b] H H' → Q v H'
def CompT (H : Hp) (v : V) : Prop := ∃ (a : Addr) (x y z : V) (ts : List Tp), v = .ref a ∧ H a = some (.tup [.str "component", x, y, z]) ∧ IsT H (.tup (Tp.toTs ts)) y ∧ Tp.deps ts ≤ 3 ∧ Tp.cnts ts ≤ 2000 ∧ Tp.Fines ts
theorem CompT.oth {H H' : Hp} {v : V} {S : List Addr} (h : CompT H v) (o : Oth S H H') : CompT H' v := by
  obtain ⟨a, x, y, z, ts, rfl, e, t, r⟩ := h
  exact ⟨a, x, y, z, ts, rfl, o.tup _ _ e, t.oth o, r⟩
def spProgram : Sp := fun vs H Q _ => ∃ (b dg pl : Addr), vs = [.ref b] ∧ Bx H b dg pl ∧
  ∀ (a c : Addr) (x y : V) (cs : List V) (H' : Hp), H' a = some (.tup [.str "program", .ref c, x, y]) → H' c = some (.tup cs) → (∀ v ∈ cs, CompT H' v) → Oth [b] H H' → Q (.ref a) H'
def spBox (K : PySem.W.Frag) : Sp := fun vs H Q _ => ∃ (a : Addr) (ns : List Int) (i j : Nat), vs = [.ref a, .int (i : Int), .int (j : Int)] ∧ SqL K H a (ns.map V.int) ∧ i ≤ 100 ∧ j ≤ 100 ∧
  ∀ (b d pl : Addr) (H' : Hp), H b = none → Oth [] H H' → Bx H' b d pl → Q (.ref b) H'
end Pw
namespace Pw
open PySem PySem.Spec PyProof.Rows L2
theorem cnts_take : ∀ {ts : List Tp} {i : Nat} {t : Tp}, ts[i]? = some t → Tp.cnts (ts.take i) + t.cnt ≤ Tp.cnts ts
  | [], i, t, h => by simp at h
  | u :: ts, 0, t, h => by cases h; simp [Tp.cnts]
  | u :: ts, i + 1, t, h => by
    have q := cnts_take (ts := ts) (i := i) (t := t) h
    simp only [List.take_succ_cons, Tp.cnts]
    omega
theorem deps_get : ∀ {ts : List Tp} {i : Nat} {t : Tp}, ts[i]? = some t → t.dep ≤ Tp.deps ts
  | [], i, t, h => by simp at h
  | u :: ts, 0, t, h => by cases h; simp only [Tp.deps]; omega
  | u :: ts, i + 1, t, h => by
    have q := deps_get (ts := ts) (i := i) (t := t) h
    simp only [Tp.deps]
    omega
def LRow (H : Hp) (r : Rw) (v : V) : Prop := ∃ (a : Addr) (x y z : V), v = .ref a ∧ H a = some (.lst [x, y, z]) ∧ IsT H (.tup (r.place.map .int)) x ∧ IsT H r.tp.toT y
def LRows (H : Hp) (R : List Rw) (rs : List V) : Prop := Paired (fun r v => LRow H r v) R rs
theorem LRows.oth {H H' : Hp} {S : List Addr} (o : Oth S H H') : ∀ {R : List Rw} {rs : List V}, LRows H R rs → (∀ v ∈ rs, ∀ a ∈ S, v ≠ .ref a) → LRows H' R rs
  | _, _, .nil, _ => .nil
  | _, _, .cons ⟨a, x, y, z, e, h, p, q⟩ t, n => .cons ⟨a, x, y, z, e, o.keep a _ (fun z => n _ List.mem_cons_self a z e) h, p.oth o, q.oth o⟩ (LRows.oth o t fun v hv => n v (List.mem_cons_of_mem _ hv))
theorem LRows.len {H : Hp} : ∀ {R : List Rw} {rs : List V}, LRows H R rs → rs.length = R.length
  | _, _, .nil => rfl
  | _, _, .cons _ t => congrArg (· + 1) (LRows.len t)
theorem LRows.ne {H : Hp} {p : Addr} (h : H p = none) : ∀ {R : List Rw} {rs : List V}, LRows H R rs → ∀ v ∈ rs, v ≠ .ref p
  | _, _, .nil => fun v hv => absurd hv (by simp)
  | _, _, .cons ⟨a, x, y, z, e, ha, _⟩ t => fun v hv => by
    rcases List.mem_cons.mp hv with rfl | hv
    · rw [e]; intro z; cases z; rw [h] at ha; cases ha
    · exact LRows.ne h t v hv
/-- the list at p, new since H, holds the rows R -/
structure LSt (H H1 : Hp) (p : Addr) (R : List Rw) (rs : List V) : Prop where
  new : H p = none
  oth : Oth [] H H1
  at_ : H1 p = some (.lst rs)
  rows : LRows H1 R rs
  ne : ∀ v ∈ rs, v ≠ .ref p
section
variable {H H1 H2 : Hp} {p a p4 p3 : Addr} {R R' : List Rw} {rs rs' : List V} {x y z : V} {r : Rw}
theorem LSt.go (h : LSt H H1 p R rs) (o : Oth [] H1 H2) : LSt H H2 p R rs := ⟨h.new, h.oth.trans o, o.keep p _ (by simp) h.at_, h.rows.oth o (by simp), h.ne⟩
theorem LSt.push (h : LSt H H1 p R rs) (ha : H1 a = none) (hx : IsT H1 (.tup (r.place.map .int)) x) (hy : IsT H1 r.tp.toT y) :
    LSt H (upd (upd H1 a (.lst [x, y, z])) p (.lst (rs ++ [.ref a]))) p (R ++ [r]) (rs ++ [.ref a]) := by
  have h1 := h.go (Oth.new (o := .lst [x, y, z]) ha)
  have o1 : Oth [] H1 (upd H1 a (.lst [x, y, z])) := Oth.new ha
  have op : Oth [p] (upd H1 a (.lst [x, y, z])) (upd (upd H1 a (.lst [x, y, z])) p (.lst (rs ++ [.ref a]))) := Oth.put (by simp) h1.at_
  have nap : a ≠ p := fun e => by rw [e] at ha; rw [h.at_] at ha; cases ha
  refine ⟨h.new, Oth.drop (p := p) ((h1.oth.mono (by simp)).trans op) h.new, upd_same, Paired.appendP (h1.rows.oth op fun v hv b hb => ?_) (.cons ⟨a, x, y, z, rfl, op.keep a _ (by simp [nap]) upd_same, (hx.oth o1).oth op, (hy.oth o1).oth op⟩ .nil), fun v hv => ?_⟩
  · rw [List.mem_singleton.mp hb]; exact h.ne v hv
  · rcases List.mem_append.mp hv with q | q
    · exact h.ne v q
    · rw [List.mem_singleton.mp q]; intro e; cases e; exact nap rfl
theorem LSt.cat (h : LSt H H1 p R rs) (o : Oth [] H1 H2) (q : LRows H2 R' rs') (n : H2 p4 = none) : LSt H (upd H2 p4 (.lst (rs ++ rs'))) p4 (R ++ R') (rs ++ rs') := by
  have h1 := h.go o
  have on : Oth [] H2 (upd H2 p4 (.lst (rs ++ rs'))) := Oth.new n
  refine ⟨?_, h1.oth.trans on, upd_same, Paired.appendP (h1.rows.oth on (by simp)) (q.oth on (by simp)), fun v hv => ?_⟩
  · cases e : H p4 with
    | none => rfl
    | some u => rw [h1.oth.keep p4 _ (by simp) e] at n; cases n
  · rcases List.mem_append.mp hv with z | z
    · exact LRows.ne n h1.rows v z
    · exact LRows.ne n q v z
end
def spListed (n : Nat) : Sp := fun vs H Q _ => ∃ (ts : List Tp) (pl : List Int) (ar : List Str) (vc vb : V) (aa : Addr) (as : List V), vs = [vc, vb, .ref aa] ∧ IsT H (.tup (Tp.toTs ts)) vc ∧ IsT H (.tup (pl.map .int)) vb ∧ H aa = some (.lst as) ∧
  Tp.deps ts < n ∧ Tp.cnts ts ≤ 5000 ∧ pl.length + 2 * n ≤ 1000 ∧ as.length + n ≤ 1000 ∧
  ∀ (p : Addr) (H' : Hp) (rs : List V), LSt H H' p (Tp.lst pl 0 ar ts) rs → Q (.ref p) H'
end Pw
namespace Pw
open PySem PySem.Spec PyProof.Rows L2
mutual
theorem under_mem : ∀ (t : Tp) (pl : List Int) (ar : List Str) (r : Rw), r ∈ t.under pl ar → r.tp.dep ≤ t.dep ∧ r.tp.cnt ≤ t.cnt ∧ (t.Fine → r.tp.Fine) ∧ r.place.length ≤ pl.length + 2 * t.dep
  | .box _ _ _ cs, pl, ar, r, h => by
    obtain ⟨a, b, c, d⟩ := lst_mem cs pl 0 _ r h
    simp only [Tp.dep, Tp.cnt, Tp.Fine]
    exact ⟨by omega, by omega, fun f => c f.2, by omega⟩
  | .each _ cs, pl, ar, r, h => by
    obtain ⟨a, b, c, d⟩ := lst_mem cs pl 0 _ r h
    simp only [Tp.dep, Tp.cnt, Tp.Fine]
    exact ⟨by omega, by omega, fun f => c f.2, by omega⟩
  | .when _ cs os, pl, ar, r, h => by
    simp only [Tp.dep, Tp.cnt, Tp.Fine]
    rcases List.mem_append.mp h with h | h
    · obtain ⟨a, b, c, d⟩ := lst_mem cs _ 0 _ r h
      rw [List.length_append, List.length_singleton] at d
      exact ⟨by omega, by omega, fun f => c f.2.1, by omega⟩
    · obtain ⟨a, b, c, d⟩ := lst_mem os _ 0 _ r h
      rw [List.length_append, List.length_singleton] at d
      exact ⟨by omega, by omega, fun f => c f.2.2, by omega⟩
  | .text _, pl, ar, r, h | .show _, pl, ar, r, h | .child _ _ _, pl, ar, r, h | .part _, pl, ar, r, h | .input _ _, pl, ar, r, h => by simp [Tp.under] at h
theorem lst_mem : ∀ (ts : List Tp) (pl : List Int) (k : Nat) (ar : List Str) (r : Rw), r ∈ Tp.lst pl k ar ts → r.tp.dep ≤ Tp.deps ts ∧ r.tp.cnt ≤ Tp.cnts ts ∧ (Tp.Fines ts → r.tp.Fine) ∧ r.place.length ≤ pl.length + 1 + 2 * Tp.deps ts
  | [], pl, k, ar, r, h => by simp [Tp.lst] at h
  | t :: ts, pl, k, ar, r, h => by
    simp only [Tp.lst] at h
    simp only [Tp.deps, Tp.cnts, Tp.Fines]
    rcases List.mem_cons.mp h with rfl | h
    · refine ⟨Nat.le_max_left _ _, by simp, fun f => f.1, ?_⟩
      simp only [List.length_append, List.length_singleton]
      omega
    · rcases List.mem_append.mp h with h | h
      · obtain ⟨a, b, c, d⟩ := under_mem t _ _ r h
        rw [List.length_append, List.length_singleton] at d
        exact ⟨by omega, by omega, fun f => c f.1, by omega⟩
      · obtain ⟨a, b, c, d⟩ := lst_mem ts _ _ _ r h
        exact ⟨by omega, by omega, fun f => c f.2, by omega⟩
end
theorem ints_dep (ns : List Int) (n : Nat) (h : ns.length ≤ 100000) : Dep (n + 2) (.tup (ns.map .int)) := .tup _ _ (by rw [List.length_map]; exact h) fun t ht => by
  obtain ⟨i, _, rfl⟩ := List.mem_map.mp ht
  exact .int _ _
theorem row_dep {r : Rw} (hd : r.tp.dep ≤ 3) (hc : r.tp.cnt ≤ 5000) (hf : r.tp.Fine) (hp : r.place.length ≤ 1000) : Dep 15 (.tup [.tup (r.place.map .int), r.tp.toT]) := by
  refine .tup 14 _ (by simp) ?_
  simp only [List.mem_cons, List.not_mem_nil, or_false, forall_eq_or_imp, forall_eq]
  exact ⟨ints_dep _ 12 (by omega), (Tp.dep_ok r.tp hf hc).mono (by omega)⟩
theorem pairs_dep {ts : List Tp} (hd : Tp.deps ts ≤ 3) (hc : Tp.cnts ts ≤ 5000) (hf : Tp.Fines ts) : Dep 16 (pairsT (Tp.lst [] 0 [] ts)) := by
  refine .tup 15 _ (by rw [List.length_map, Tp.lst_len]; omega) fun t ht => ?_
  obtain ⟨r, hr, rfl⟩ := List.mem_map.mp ht
  obtain ⟨a, b, c, d⟩ := lst_mem ts [] 0 [] r hr
  refine row_dep (by omega) (by omega) (c hf) ?_
  simp only [List.length_nil] at d
  omega
theorem lrows_get {H : Hp} : ∀ {R : List Rw} {rs : List V}, LRows H R rs → ∀ {i : Nat} {v : V}, rs[i]? = some v → ∃ r, R[i]? = some r ∧ LRow H r v
  | _, _, .nil, i, v, e => by simp at e
  | _, _, .cons h t, 0, v, e => by cases e; exact ⟨_, rfl, h⟩
  | _, _, .cons h t, i + 1, v, e => lrows_get t (i := i) e
def pairT' (r : Rw) : T := .tup [.tup (r.place.map .int), r.tp.toT]
def spLawK (T : Addr) (K : PySem.W.Frag) : Sp := fun vs H Q _ => ∃ (a : Addr) (ns : List Int), vs = [.ref a] ∧ SqL K H a (ns.map V.int) ∧ ns.length ≤ 63 ∧ GxR.TabG H T ∧ ∀ H', Q (.bl true) H'
end Pw
namespace Pw
open PySem PySem.Spec PyProof.Rows L2
/-! ### what data look like as told data -/
mutual
def T.dat : T → PyData
  | .non => .none | .bl b => .bool b | .int i => .int i | .str s => .str s
  | .tup ts => .tuple (T.dats ts)
def T.dats : List T → List PyData
  | [] => []
  | t :: ts => t.dat :: T.dats ts
end
mutual
/-- small numbers, plain texts -/
def T.slim : T → Prop
  | .non | .bl _ => True
  | .int i => 0 ≤ i ∧ i < 16
  | .str s => ∀ c ∈ s.cps.toList, c < 16 ^ 8
  | .tup ts => T.slims ts
def T.slims : List T → Prop
  | [] => True
  | t :: ts => t.slim ∧ T.slims ts
end
theorem int_slim : ∀ i : Int, 0 ≤ i → i < 16 → (PyData.int i).leavesShort 8 = true ∧ (PyData.int i).showable = true := by
  intro i h0 h1
  obtain ⟨n, rfl⟩ := Int.eq_ofNat_of_zero_le h0
  have hn : n < 16 := by omega
  have all : ∀ m : Fin 16, (PyData.int ((m.val : Nat) : Int)).leavesShort 8 = true ∧ (PyData.int ((m.val : Nat) : Int)).showable = true := by decide +kernel
  exact all ⟨n, hn⟩
mutual
theorem T.slim_ok : ∀ t : T, t.slim → t.dat.leavesShort 8 = true ∧ t.dat.showable = true
  | .non, _ => ⟨rfl, rfl⟩
  | .bl _, _ => ⟨rfl, rfl⟩
  | .int i, h => int_slim i h.1 h.2
  | .str s, h => ⟨by simp only [T.dat, PyData.leavesShort, List.all_eq_true, decide_eq_true_eq]; exact h, rfl⟩
  | .tup ts, h => by
    have q := T.slims_ok ts h
    exact ⟨by simp only [T.dat, PyData.leavesShort]; exact q.1, by simp only [T.dat, PyData.showable]; exact q.2⟩
theorem T.slims_ok : ∀ ts : List T, T.slims ts → PyData.leavesShortAll 8 (T.dats ts) = true ∧ PyData.showableAll (T.dats ts) = true
  | [], _ => ⟨rfl, rfl⟩
  | t :: ts, h => by
    have q := T.slim_ok t h.1
    have q2 := T.slims_ok ts h.2
    exact ⟨by simp only [T.dats, PyData.leavesShortAll, q.1, q2.1]; rfl, by simp only [T.dats, PyData.showableAll, q.2, q2.2]; rfl⟩
end
mutual
theorem T.noDict : ∀ t : T, t.dat.hasDict = false
  | .non | .bl _ | .int _ | .str _ => rfl
  | .tup ts => by simp only [T.dat, PyData.hasDict]; exact T.noDicts ts
theorem T.noDicts : ∀ ts : List T, PyData.hasDictAll (T.dats ts) = false
  | [] => rfl
  | t :: ts => by simp only [T.dats, PyData.hasDictAll, T.noDict t, T.noDicts ts]; rfl
end
def T.bulk (t : T) : Nat := t.dat.bulk
theorem T.shown_fits {t : T} (hs : t.slim) (hb : t.bulk ≤ 1600000) : t.dat.shown.length ≤ sizeLine := by
  have h := PyData.shown_le_bulk 8 (by decide) t.dat (T.slim_ok t hs).1
  rw [sizeLine_eq]
  unfold T.bulk at hb
  omega
section
variable {X : Cx} {pins : List (Addr × Obj)} {σ : L2.St} {H : Hp} {s : Shared}
mutual
theorem reads_of (I : Inv X pins σ H s) : ∀ {t : T} {v : V} {u : Value}, IsT H t v → RelV v u → ∃ as, Reads s.heap u t.dat as
  | .non, v, u, h, r => by cases h; cases (show u = Value.none from r); exact ⟨[], .none⟩
  | .bl b, v, u, h, r => by cases h; cases (show u = Value.bool b from r); exact ⟨[], .bool b⟩
  | .int i, v, u, h, r => by cases h; obtain ⟨t, rfl⟩ := r; exact ⟨[], .int i t⟩
  | .str x, v, u, h, r => by cases h; obtain ⟨t, rfl⟩ := r; exact ⟨[], .str x t⟩
  | .tup ts, v, u, h, r => by
    obtain ⟨a, xs, rfl, e, p⟩ := h.inv
    cases (show u = Value.ref a from r)
    obtain ⟨_, its, rv, o, g, c, n, d⟩ := I.hok a _ e
    obtain ⟨as, q⟩ := reads_all I p rv
    exact ⟨as, .tuple g c d (by simpa using q)⟩
theorem reads_all (I : Inv X pins σ H s) : ∀ {ts : List T} {xs : List V} {us : List Value}, Paired (IsT H) ts xs → Vals xs us → ∃ as, ReadsAll s.heap us (T.dats ts) as
  | [], xs, us, h, r => by cases h; cases r; exact ⟨[], .nil⟩
  | t :: ts, xs, us, h, r => by
    cases h with
    | cons h1 h2 =>
      cases r with
      | cons r1 r2 =>
        obtain ⟨as, q⟩ := reads_of I h1 r1
        obtain ⟨bs, q2⟩ := reads_all I h2 r2
        exact ⟨_, .cons q q2⟩
end
/-- repr of a tuple, where no repr is under way -/
theorem call_reprT (hg : X.A.guards = some []) (hu : X.A.units + 60 < cLine) : CallR X (.builtin "repr") (fun xs H Q => ∃ (ts : List T) (v : V), xs = [v] ∧ IsT H (.tup ts) v ∧ (T.tup ts).slim ∧ (T.tup ts).bulk ≤ 1600000 ∧ (T.tup ts).dat.depth ≤ 40 ∧ Q (.str (T.tup ts).dat.shown) H) := by
  intro pins s σ H xs us Q I r h
  obtain ⟨ts, v, rfl, ht, hs, hb, hd, q⟩ := h
  obtain ⟨u, rfl, ru⟩ := vals1 r
  obtain ⟨as, rd⟩ := reads_of I ht ru
  obtain ⟨a, xs, rfl, e, p⟩ := ht.inv
  cases (show u = Value.ref a from ru)
  exact repr_of_reads' rd (T.slim_ok _ hs).2 (fun z => by rw [T.noDict] at z; cases z) hg (by omega) (fun _ _ z => z) (fun h' u tk k => ⟨.str _, H, I.kept k, ⟨u, rfl⟩, q⟩) (T.shown_fits hs hb)
/-! ### a tuple of ints in an f-string -/
theorem own_tuple {prog : Program} {w : World} {A : Around} {E : Value → Shared → Prop} {s : Shared} {a : Addr} {o : Obj} {items : Array Value} {n : Nat} {ts : List Str} {Q : Fin → Shared → Prop} {c : Code}
    (ha : s.heap.get? a = some o) (hd : o.data = .seq items n) (hT : ReprAll prog w items.toList ts) (hz : (tupleText ts).length ≤ sizeLine)
    (h : ∀ (t : Str) u tk, t = "(...)" ∨ t = tupleText ts → Q (.done (.ret (.str t u))) { s with toks := tk }) :
    wpOwn (model prog w) A c (Builtin.tupleReprAt 0 ⟨[.ref a], []⟩) Q E s := by
  rw [tuple_repr_tree, tupleReprUnderWay_eq]
  refine wpOwn_bind (wpOwn_bind (wpOwn_stack fun p below _ _ _ => ?_))
  refine wpOwn_of_wpAny (wpAny_pure ?_)
  cases List.any (List.tail ((c, p) :: below)) (tupGuardF (.ref a)) with
  | true =>
    refine wpOwn_of_wpAny ?_
    show wpAny _ _ (do rule "tuple.repr.in-itself"; retStr "(...)") _ _ _
    refine wpAny_bind (wpAny_rule (wpAny_bind (wpAny_mkStr (wpAny_pure (h _ _ _ (.inl rfl))) ?_)))
    rw [sizeLine_eq]
    decide
  | false => exact wpOwn_of_wpAny (wpAny_tupleReprRest ha hd hT (fun u tk => h _ u tk (.inr rfl)) (by omega))
def tFmtT (te : TE) : TE := fun σ H Q => te σ H fun x H1 => ∃ (a : Addr) (ns : List Int), x = .ref a ∧ H1 a = some (.tup (ns.map V.int)) ∧ (∀ n ∈ ns, 0 ≤ n ∧ n < 2000) ∧ ns.length ≤ 1000 ∧ ∀ y : Str, y.length ≤ 20000 → Q (.str y) H1
theorem int_len : ∀ i : Int, 0 ≤ i → i < 2000 → (Str.ofString (toString i)).length ≤ 10 ∧ i.natAbs.log2 < 1920 := by
  intro i h0 h1
  obtain ⟨n, rfl⟩ := Int.eq_ofNat_of_zero_le h0
  have hn : n < 2000 := by omega
  have all : ∀ m : Fin 2000, (Str.ofString (toString ((m.val : Nat) : Int))).length ≤ 10 ∧ ((m.val : Nat) : Int).natAbs.log2 < 1920 := by decide +kernel
  exact all ⟨n, hn⟩
theorem repr_ints {prog : Program} {w : World} : ∀ {ns : List Int} {us : List Value}, Vals (ns.map V.int) us → (∀ n ∈ ns, 0 ≤ n ∧ n < 2000) → ReprAll prog w us (ns.map fun n => Str.ofString (toString n))
  | [], us, h, _ => by cases h; exact .nil
  | n :: ns, us, h, b => by
    cases h with
    | cons r q =>
      obtain ⟨t, rfl⟩ := r
      have z := b n List.mem_cons_self
      exact .cons (ReprIs.int t (int_len n z.1 z.2).2) (repr_ints q fun m hm => b m (List.mem_cons_of_mem _ hm))
theorem sum_le : ∀ (l : List Str) (k : Nat), (∀ x ∈ l, x.length ≤ k) → (l.map (·.length)).sum ≤ k * l.length
  | [], k, _ => Nat.zero_le _
  | x :: l, k, h => by
    have a := h x List.mem_cons_self
    have b := sum_le l k fun y hy => h y (List.mem_cons_of_mem _ hy)
    simp only [List.map_cons, List.sum_cons, List.length_cons, Nat.mul_succ]
    omega
theorem tupleText_ints {ns : List Int} (h : ∀ n ∈ ns, 0 ≤ n ∧ n < 2000) (hl : ns.length ≤ 1000) : (tupleText (ns.map fun n => Str.ofString (toString n))).length ≤ 20000 := by
  have a := tupleText_len_le (ns.map fun n => Str.ofString (toString n))
  have b := sum_le (ns.map fun n => Str.ofString (toString n)) 10 fun x hx => by
    obtain ⟨n, hn, rfl⟩ := List.mem_map.mp hx
    exact (int_len n (h n hn).1 (h n hn).2).1
  simp only [List.length_map] at a b
  omega
theorem pe_fmtT {e : Expr} {te : TE} {pos : Pos} (hu : X.A.units + 2 < cLine) (he : PE X e te) : PE X (.FormattedValue e (-1) none pos) (tFmtT te) := by
  refine ⟨fun pins s σ H Q I h => ?_⟩
  refine wpAny_FormattedValue_plain (thn (he.run pins s σ H _ I h) fun v s1 hv => ?_)
  obtain ⟨x, H1, I1, r1, a, ns, rfl, e1, hn, hl, q⟩ := hv
  cases (show v = Value.ref a from r1)
  obtain ⟨_, its, rv, o, g, c, n, d⟩ := I1.hok a _ e1
  have tz := tupleText_ints hn hl
  have tz2 : (tupleText (ns.map fun n => Str.ofString (toString n))).length ≤ sizeLine := by rw [sizeLine_eq]; omega
  refine wpAny_formatField_slot (T := "tuple") (idr := "tuple.__repr__") (fun _ _ => nofun) hu ⟨o, g, c⟩ F.slot_tuple_format F.slot_tuple_str F.slot_tuple_repr ?_
  refine wpAny_call (codeAny_call_builtin_own (Code.quiet_builtin _ (by decide +kernel)) F.entry_tuple_repr (F.slot_tuple_repr.check _ _ _ _ _ _ _ _ ⟨o, g, c⟩ (F.args_tuple_repr_1 _)
    (own_tuple g d (by simpa using repr_ints rv hn) tz2 fun t u tk ht => ?_)))
  refine ⟨t, u, rfl, .str t, H1, I1.tok _, ⟨u, rfl⟩, q t ?_⟩
  rcases ht with rfl | rfl
  · decide
  · exact tz
end
end Pw
namespace Pw
open PySem PySem.Spec PyProof.Rows L2
section
variable {X : Cx} {e : Expr} {es : List Expr} {ta : TA} {x : Str} {p1 p2 pos : Pos}
/-- D.__init__(self, ..), D an own class without an __init__ of its own, over ValueError -/
theorem pe_oinit {pl : Sem Bool} {D : Addr} {mc : Value} (hg : Gl X x) (hm : X.mg x = some (.ref D)) (g1 : PySem.W.specialIn X.K (.ref D) "__getattribute__" = some (some (.builtin "type.__getattribute__"))) (g2 : PySem.W.readsIn X.K D mc = true)
    (g3 : PySem.W.findCls X.K (.ref D) mc "__init__" = some (.val (.builtin "ValueError.__init__"))) (ha : PA X (e :: es) ta)
    (hc : eval (.Call (.Attribute (.Name x p1) "__init__" p2) (e :: es) [] pos) X.env = (do
      let o ← eval (.Name x p1) X.env
      standAt p2.atName
      let (g, first) ← holding [o] (getMethod o "__init__" pl)
      callWith pos g first (backTo pos (starEach (e :: es) X.env)) (backToKw pos (keywordEach [] X.env))) := by rfl)
    (hdb : (x == ("__debug__" : Str)) = false := by decide) (h1 : starEach (e :: es) X.env = (false, eval e X.env) :: starEach es X.env := by rfl) (h2 : (backTo pos (starEach es X.env)).any (·.1) = false := by rfl) :
    PE X (.Call (.Attribute (.Name x p1) "__init__" p2) (e :: es) [] pos) (tVeI X.K ta) := by
  refine ⟨fun pins s σ H Q I h => PySem.W.methodCall_KW (ld_glob I hg hm ?_ hdb) hc⟩
  refine PySem.W.method_cls I.kIn g1 (PySem.W.cls_value I.kIn g2 g3 (by decide +kernel) ?_)
  refine PyProof.Rows.callWith_method1 (thn (ha.run pos pins _ σ H _ (I.tok _) h) fun us t ⟨vs, H1, J, rel, a, C, ws, hv, hl, T, at_, q⟩ => ?_) h1 h2
  subst hv
  cases rel with
  | @cons _ u0 _ ur ra rest =>
    cases (show u0 = Value.ref a from ra)
    exact oinit_ok T J at_ (by rw [← Paired.length rest, sizeLine_eq]; omega) fun _ J' => ⟨.non, H1, J', rfl, q⟩
end
end Pw
namespace Pw
open PySem PySem.Spec PyProof.Rows L2
def faultFs (c : Int) (vp : V) (re : Str) : List (Str × V) := [("reason", .str re), ("place", vp), ("component", .int c)]
def spInit (K : PySem.W.Frag) (C : Addr) : Sp := fun vs H Q _ => ∃ (a : Addr) (c : Int) (pl : List Int) (vp : V) (re : Str), vs = [.ref a, .int c, vp, .str re] ∧ OexC K C ∧ H a = some (exo a C none) ∧ IsT H (.tup (pl.map .int)) vp ∧
  (∀ n ∈ pl, 0 ≤ n ∧ n < 2000) ∧ pl.length ≤ 1000 ∧ -1 ≤ c ∧ c < 2000 ∧ re.length ≤ 1000 ∧ PySem.W.findIn K (.ref C) "component" = some none ∧ PySem.W.findIn K (.ref C) "place" = some none ∧ PySem.W.findIn K (.ref C) "reason" = some none ∧
  ∀ (d : Addr) (H' : Hp), H d = none → d ≠ a → H' a = some (exo a C (some d)) → H' d = some (exd d (faultFs c vp re)) → (∀ b o, b ≠ a → b ≠ d → H b = some o → H' b = some o) → Q .non H'
theorem int_len' (i : Int) (h0 : -1 ≤ i) (h1 : i < 2000) : (Str.ofString (toString i)).length ≤ 10 ∧ i.natAbs.log2 < 1920 := by
  by_cases h : 0 ≤ i
  · exact int_len i h h1
  · obtain rfl : i = -1 := by omega
    decide +kernel
theorem joinL {acc y : Str} {m n : Nat} (h1 : acc.length ≤ m) (h2 : y.length ≤ n) : (acc ++ y).length ≤ m + n := by rw [strLen_append]; omega
theorem line_of {acc : Str} {m : Nat} (h : acc.length ≤ m) (h2 : m ≤ 100000) : acc.length ≤ sizeLine := by rw [sizeLine_eq]; omega
/-- what leaves when a fault is raised -/
def Thrown (C : Addr) (E : XK) (c : Int) (pl : List Int) (re : Str) (S : List Addr) (H : Hp) : Prop :=
  ∀ (d : Addr) (vp : V) (H' : Hp), H' d = some (.xd (faultFs c vp re)) → IsT H' (.tup (pl.map .int)) vp → Oth S H H' → E (.ref C) (some d) H'
/-- what is known of the class of faults -/
structure FaultC (K : PySem.W.Frag) (C fI : Addr) : Prop where
  T : OexC K C
  i : PySem.W.findIn K (.ref C) "__init__" = some (some (.ref fI))
  t : PySem.W.typeIn K (.ref fI) = some (.type "function")
  f1 : PySem.W.findIn K (.ref C) "component" = some none
  f2 : PySem.W.findIn K (.ref C) "place" = some none
  f3 : PySem.W.findIn K (.ref C) "reason" = some none
theorem throw_mk {K : PySem.W.Frag} {C fI : Addr} {H1 : Hp} {c : Int} {pl : List Int} {vp : V} {re : Str} {Q : XK} (TC : FaultC K C fI) (hp : IsT H1 (.tup (pl.map .int)) vp) (hpl : ∀ n ∈ pl, 0 ≤ n ∧ n < 2000) (hl : pl.length ≤ 1000) (h0 : -1 ≤ c) (h1 : c < 2000) (hre : re.length ≤ 1000)
    (hq : Thrown C Q c pl re [] H1) (a : Addr) (ha : H1 a = none) : spInit K C (.ref a :: ([.int c, vp, .str re] ++ [])) (upd H1 a (exo a C none))
      (fun v H2 => v = .non ∧ ∃ (d : Addr) (fs : List (Str × V)), H2 a = some (exo a C (some d)) ∧ H2 d = some (exd d fs) ∧ H1 d = none ∧ Q (.ref C) (some d) (upd (L2.del H2 a) d (.xd fs))) (fun _ _ _ => False) := by
  have o : Oth [] H1 (upd H1 a (exo a C none)) := Oth.new ha
  refine ⟨a, c, pl, vp, re, rfl, TC.T, upd_same, hp.oth o, hpl, hl, h0, h1, hre, TC.f1, TC.f2, TC.f3, fun d H' hd nda e1 e2 kp => ⟨rfl, d, _, e1, e2, by rw [upd_ne nda] at hd; exact hd, ?_⟩⟩
  have hd1 : H1 d = none := by rw [upd_ne nda] at hd; exact hd
  have kk : ∀ b o, H1 b = some o → (upd (L2.del H' a) d (.xd (faultFs c vp re))) b = some o := fun b o e => by
    have nba : b ≠ a := ne_of_none e ha
    have nbd : b ≠ d := ne_of_none e hd1
    rw [upd_ne nbd, L2.del_ne nba]
    exact kp b o nba nbd (by rw [upd_ne nba]; exact e)
  have o2 : Oth [] H1 (upd (L2.del H' a) d (.xd (faultFs c vp re))) := ⟨fun b o _ e => kk b o e, fun b xs e => kk b _ e⟩
  exact hq d vp _ upd_same (hp.oth o2) o2
end Pw
namespace Pw
open PySem PySem.Spec PyProof.Rows L2
/-! ### programs -/
def natsT (ns : List Nat) : T := .tup ((ns.map Int.ofNat).map .int)
structure Cm where
  cells : List Nat
  cs : List Tp
  acts : T
structure Pg where
  comps : List Cm
  store : List Nat
  parts : List Nat
def Cm.toT (c : Cm) : T := .tup [.str "component", natsT c.cells, .tup (Tp.toTs c.cs), c.acts]
def Pg.toT (p : Pg) : T := .tup [.str "program", .tup (p.comps.map Cm.toT), natsT p.store, natsT p.parts]
/-! ### the first fault -/
def reasonPart (own nparts p : Nat) (ar : List Str) (seen : List Nat) : Option Str :=
  if nparts ≤ p then some "unknown part" else if own ≠ 0 ∨ ("when" : Str) ∈ ar ∨ ("each" : Str) ∈ ar then some "part out of place" else if p ∈ seen then some "part stands twice" else none
def reasonOf (many nparts own : Nat) (t : Tp) (ar : List Str) (seen : List Nat) : Option Str :=
  if 3 < ar.length then some "too deep" else match t with
    | .child c _ _ => if own < c ∧ c < many then none else some "unknown component"
    | .part p => reasonPart own nparts p ar seen
    | _ => none
/-- the rows of one component: its first fault, or the parts that stand there -/
def rowsFault (many nparts own : Nat) : List Rw → List Nat → (List Int × Str) ⊕ List Nat
  | [], seen => .inr seen
  | r :: rs, seen => match reasonOf many nparts own r.tp r.ar seen with
    | some s => .inl (r.place, s)
    | none => rowsFault many nparts own rs (match r.tp with | .part p => seen ++ [p] | _ => seen)
def compFault (many nparts own : Nat) (ts : List Tp) : (List Int × Str) ⊕ List Nat :=
  match rowsFault many nparts own (Tp.lst [] 0 [] ts) [] with
  | .inl f => .inl f
  | .inr seen => if 24 < (Tp.lst [] 0 [] ts).length then .inl ([], "too many templates") else .inr seen
def optS : Option Str → V
  | none => .non
  | some s => .str s
theorem IsT.nats {H : Hp} {v : V} {ns : List Nat} (h : IsT H (natsT ns) v) : ∃ a, v = .ref a ∧ H a = some (.tup (ns.map natV)) := by
  obtain ⟨a, rfl, e⟩ := h.ints
  rw [List.map_map] at e
  exact ⟨a, rfl, e⟩
theorem IsT.mkNats {H : Hp} {a : Addr} {ns : List Nat} (e : H a = some (.tup (ns.map natV))) : IsT H (natsT ns) (.ref a) := .mkInts (by rw [List.map_map]; exact e)
/-- a program: its parts, where they stand -/
theorem Pg.inv {H : Hp} {v : V} {p : Pg} (h : IsT H p.toT v) : ∃ (a c s q : Addr) (cs : List V), v = .ref a ∧ H a = some (.tup [.str "program", .ref c, .ref s, .ref q]) ∧ H c = some (.tup cs) ∧ Paired (IsT H) (p.comps.map Cm.toT) cs ∧ H s = some (.tup (p.store.map natV)) ∧ H q = some (.tup (p.parts.map natV)) := by
  obtain ⟨a, _, x, y, z, rfl, e, p1, p2, p3, p4⟩ := IsT.inv4 h
  obtain rfl := p1.of_str
  obtain ⟨c, cs, rfl, ec, pc⟩ := p2.inv
  obtain ⟨s, rfl, es⟩ := p3.nats
  obtain ⟨q, rfl, eq⟩ := p4.nats
  exact ⟨a, c, s, q, cs, rfl, e, ec, pc, es, eq⟩
def spReasonPart : Sp := fun vs H Q _ => ∃ (g : Pg) (vp va : V) (own p : Nat) (ar : List Str) (e : Addr) (seen : List Nat), vs = [vp, .int (own : Int), .int (p : Int), va, .ref e] ∧ IsT H g.toT vp ∧ IsT H (.tup (ar.map .str)) va ∧ H e = some (.lst (seen.map natV)) ∧
  Q (optS (reasonPart own g.parts.length p ar seen)) H
def spReason : Sp := fun vs H Q _ => ∃ (g : Pg) (vp vt va : V) (own : Nat) (t : Tp) (ar : List Str) (e : Addr) (seen : List Nat), vs = [vp, .int (own : Int), vt, va, .ref e] ∧ IsT H g.toT vp ∧ IsT H t.toT vt ∧ IsT H (.tup (ar.map .str)) va ∧ H e = some (.lst (seen.map natV)) ∧
  Q (optS (reasonOf g.comps.length g.parts.length own t ar seen)) H
theorem flat_strs (l : List Str) : (l.map V.str).all flatV = true := by rw [List.all_eq_true]; intro x hx; obtain ⟨s, _, rfl⟩ := List.mem_map.mp hx; rfl
theorem flat_nats (l : List Nat) : (l.map natV).all flatV = true := by rw [List.all_eq_true]; intro x hx; obtain ⟨s, _, rfl⟩ := List.mem_map.mp hx; rfl
theorem eqV_str (x y : Str) : eqV (.str y) (.str x) = (y == x) := rfl
theorem eqV_nat (x y : Nat) : eqV (natV y) (natV x) = (y == x) := by
  show ((y : Int) == (x : Int)) = (y == x)
  by_cases h : y = x
  · subst h; simp
  · have h2 : ¬ (y : Int) = (x : Int) := by omega
    rw [beq_eq_false_iff_ne.mpr h, beq_eq_false_iff_ne.mpr h2]
theorem inV_strs (x : Str) : ∀ l : List Str, inV (.str x) (l.map V.str) = decide (x ∈ l)
  | [] => rfl
  | y :: l => by
    have ih := inV_strs x l
    unfold inV at ih ⊢
    rw [List.map_cons, List.any_cons, ih, eqV_str]
    by_cases h : y = x
    · subst h; simp
    · have h' : ¬ x = y := fun e => h e.symm
      rw [beq_eq_false_iff_ne.mpr h]
      simp [h']
theorem inV_nats (x : Nat) : ∀ l : List Nat, inV (natV x) (l.map natV) = decide (x ∈ l)
  | [] => rfl
  | y :: l => by
    have ih := inV_nats x l
    unfold inV at ih ⊢
    rw [List.map_cons, List.any_cons, ih, eqV_nat]
    by_cases h : y = x
    · subst h; simp
    · have h' : ¬ x = y := fun e => h e.symm
      rw [beq_eq_false_iff_ne.mpr h]
      simp [h']
end Pw
namespace Pw
open PySem PySem.Spec PyProof.Rows L2
mutual
theorem under_small : ∀ (t : Tp) (pl : List Int) (ar : List Str) (r : Rw), r ∈ t.under pl ar → ∀ n ∈ r.place, n ∈ pl ∨ (0 ≤ n ∧ n < (t.cnt : Int) + 1)
  | .box _ _ _ cs, pl, ar, r, h, n, hn => by
    simp only [Tp.cnt]
    rcases lst_small cs pl 0 _ r h n hn with h | h
    · exact .inl h
    · exact .inr ⟨h.1, by omega⟩
  | .each _ cs, pl, ar, r, h, n, hn => by
    simp only [Tp.cnt]
    rcases lst_small cs pl 0 _ r h n hn with h | h
    · exact .inl h
    · exact .inr ⟨h.1, by omega⟩
  | .when _ cs os, pl, ar, r, h, n, hn => by
    simp only [Tp.cnt]
    rcases List.mem_append.mp h with h | h
    · rcases lst_small cs _ 0 _ r h n hn with h | h
      · rcases List.mem_append.mp h with h | h
        · exact .inl h
        · rw [List.mem_singleton.mp h]; exact .inr ⟨by omega, by omega⟩
      · exact .inr ⟨h.1, by omega⟩
    · rcases lst_small os _ 0 _ r h n hn with h | h
      · rcases List.mem_append.mp h with h | h
        · exact .inl h
        · rw [List.mem_singleton.mp h]; exact .inr ⟨by omega, by omega⟩
      · exact .inr ⟨h.1, by omega⟩
  | .text _, pl, ar, r, h, _, _ | .show _, pl, ar, r, h, _, _ | .child _ _ _, pl, ar, r, h, _, _ | .part _, pl, ar, r, h, _, _ | .input _ _, pl, ar, r, h, _, _ => by simp [Tp.under] at h
theorem lst_small : ∀ (ts : List Tp) (pl : List Int) (k : Nat) (ar : List Str) (r : Rw), r ∈ Tp.lst pl k ar ts → ∀ n ∈ r.place, n ∈ pl ∨ (0 ≤ n ∧ n < (k : Int) + (Tp.cnts ts : Int) + 1)
  | [], pl, k, ar, r, h, _, _ => by simp [Tp.lst] at h
  | t :: ts, pl, k, ar, r, h, n, hn => by
    have tp := Tp.cnt_pos t
    simp only [Tp.lst] at h
    simp only [Tp.cnts]
    rcases List.mem_cons.mp h with rfl | h
    · rcases List.mem_append.mp hn with h | h
      · exact .inl h
      · rw [List.mem_singleton.mp h]; exact .inr ⟨by omega, by omega⟩
    · rcases List.mem_append.mp h with h | h
      · rcases under_small t _ _ r h n hn with h | h
        · rcases List.mem_append.mp h with h | h
          · exact .inl h
          · rw [List.mem_singleton.mp h]; exact .inr ⟨by omega, by omega⟩
        · exact .inr ⟨h.1, by omega⟩
      · rcases lst_small ts _ _ _ r h n hn with h | h
        · exact .inl h
        · exact .inr ⟨h.1, by omega⟩
end
/-- what programs keep to -/
structure Cm.Fit (c : Cm) : Prop where
  deps : Tp.deps c.cs < 12
  cnts : Tp.cnts c.cs ≤ 1700
def Pg.Fit (g : Pg) : Prop := (∀ c ∈ g.comps, c.Fit) ∧ g.comps.length ≤ 10 ∧ g.parts.length ≤ 10
theorem place_ok {ts : List Tp} (hd : Tp.deps ts < 12) (hc : Tp.cnts ts ≤ 1700) {r : Rw} (h : r ∈ Tp.lst [] 0 [] ts) : (∀ n ∈ r.place, 0 ≤ n ∧ n < 2000) ∧ r.place.length ≤ 1000 := by
  obtain ⟨a, b, c, d⟩ := lst_mem ts [] 0 [] r h
  refine ⟨fun n hn => ?_, by simp only [List.length_nil] at d; omega⟩
  rcases lst_small ts [] 0 [] r h n hn with h | h
  · cases h
  · exact ⟨h.1, by omega⟩
theorem reason_short : ∀ {many np own : Nat} {t : Tp} {ar : List Str} {seen : List Nat} {s : Str}, reasonOf many np own t ar seen = some s → s.length ≤ 1000 := by
  intro many np own t ar seen s h
  unfold reasonOf at h
  split at h
  · cases h; decide
  · split at h
    · split at h
      · cases h
      · cases h; decide
    · unfold reasonPart at h
      split at h
      · cases h; decide
      · split at h
        · cases h; decide
        · split at h
          · cases h; decide
          · cases h
    · cases h
/-- _check_component(program, own) -/
def spComp (C : Addr) : Sp := fun vs H Q E => ∃ (g : Pg) (vp : V) (own : Nat) (c : Cm), vs = [vp, .int (own : Int)] ∧ IsT H g.toT vp ∧ g.Fit ∧ g.comps[own]? = some c ∧
  match compFault g.comps.length g.parts.length own c.cs with
  | .inl f => Thrown C E (own : Int) f.1 f.2 [] H
  | .inr _ => ∀ H', Oth [] H H' → Q .non H'
theorem Thrown.oth {C : Addr} {E : XK} {c : Int} {pl : List Int} {re : Str} {S : List Addr} {H H' : Hp} (h : Thrown C E c pl re S H) (o : Oth S H H') : Thrown C E c pl re S H' := fun d vp H2 e p o2 => h d vp H2 e p (o.trans o2)
theorem Thrown.weak {C : Addr} {E : XK} {c : Int} {pl : List Int} {re : Str} {S S' : List Addr} {H : Hp} (h : Thrown C E c pl re S H) (o : ∀ a ∈ S', a ∈ S) : Thrown C E c pl re S' H := fun d vp H2 e p o2 => h d vp H2 e p (o2.mono o)
theorem Cm.inv {H : Hp} {v : V} {c : Cm} (h : IsT H c.toT v) : ∃ (a x y : Addr) (z : V), v = .ref a ∧ H a = some (.tup [.str "component", .ref x, .ref y, z]) ∧ H x = some (.tup (c.cells.map natV)) ∧ IsT H (.tup (Tp.toTs c.cs)) (.ref y) ∧ IsT H c.acts z := by
  obtain ⟨a, _, x, y, z, rfl, e, p1, p2, p3, p4⟩ := IsT.inv4 h
  obtain rfl := p1.of_str
  obtain ⟨x, rfl, ex⟩ := p2.nats
  obtain ⟨y, ys, rfl, ey, py⟩ := p3.inv
  exact ⟨a, x, y, z, rfl, e, ex, p3, p4⟩
theorem rowsT_get {H : Hp} : ∀ {R : List Rw} {rs : List V}, RowsT H R rs → ∀ {i : Nat} {v : V}, rs[i]? = some v → ∃ r, R[i]? = some r ∧ IsT H (rowT r) v
  | _, _, .nil, i, v, e => by simp at e
  | _, _, .cons h t, 0, v, e => by cases e; exact ⟨_, rfl, h⟩
  | _, _, .cons h t, i + 1, v, e => rowsT_get t (i := i) e
def seenOf (t : Tp) (seen : List Nat) : List Nat := match t with | .part p => seen ++ [p] | _ => seen
theorem rowsFault_at {many np own : Nat} {R : List Rw} {i : Nat} {r : Rw} {seen : List Nat} (h : R[i]? = some r) : rowsFault many np own (R.drop i) seen = match reasonOf many np own r.tp r.ar seen with
    | some s => .inl (r.place, s)
    | none => rowsFault many np own (R.drop (i + 1)) (seenOf r.tp seen) := by
  have hi : i < R.length := (List.getElem?_eq_some_iff.mp h).1
  have e : R[i] = r := by rw [List.getElem?_eq_getElem hi] at h; exact Option.some.inj h
  rw [List.drop_eq_getElem_cons hi, e]
  rfl
end Pw
namespace Pw
open PySem PySem.Spec PyProof.Rows L2
def partIn (t : Tp) : List Nat := match t with | .part n => [n] | _ => []
def partsIn (R : List Rw) : List Nat := R.flatMap fun r => partIn r.tp
def spPlaced (T : Addr) : Sp := fun vs H Q _ => ∃ (ca : Addr) (cs : List V) (c : Cm) (comps : List Cm), vs = [.ref ca] ∧ H ca = some (.tup cs) ∧ Paired (IsT H) ((c :: comps).map Cm.toT) cs ∧ c.Fit ∧ GxR.TabG H T ∧
  ∀ (p : Addr) (H' : Hp), H p = none → Oth [T] H H' → GxR.TabG H' T → H' p = some (.lst ((partsIn (Tp.lst [] 0 [] c.cs)).map natV)) → Q (.ref p) H'
theorem upd_self {H : Hp} {a : Addr} {o : HO} (h : H a = some o) : upd H a o = H := by
  funext b
  by_cases hb : b = a
  · rw [hb, upd_same, h]
  · rw [upd_ne hb]
theorem partsIn_app (a b : List Rw) : partsIn (a ++ b) = partsIn a ++ partsIn b := List.flatMap_append ..
theorem partIn_len (t : Tp) : (partIn t).length ≤ 1 := by cases t <;> simp [partIn]
theorem partsIn_len : ∀ R : List Rw, (partsIn R).length ≤ R.length
  | [] => Nat.le_refl _
  | r :: R => by
    have a := partIn_len r.tp
    have b := partsIn_len R
    have e : partsIn (r :: R) = partIn r.tp ++ partsIn R := rfl
    rw [e, List.length_append, List.length_cons]
    omega
theorem lc2_one {K : PySem.W.Frag} {a1 : Addr} {x : V} {g : TG} {tt : TT} {wi1 : TI} {g1 : TG} {tt1 : TT} {te : TE} {vs vs1 : List Nat} {σ : L2.St} {H1 : Hp} {D : Addr} {Qd P1 : Hp → Prop} (h0 : SqT K (upd H1 D (.lst [])) a1 [x])
    (step : g x (wipe σ vs) (upd H1 D (.lst [])) fun σ2 H2 => wipe σ2 vs = wipe σ vs ∧ tt σ2 H2 fun b H3 =>
      if b = true then wi1 σ2 H3 fun J1 H4 => ∃ W1 : Nat → Nat → Hp → Prop, (∃ m, W1 0 m H4) ∧ ∀ j k H, W1 j k H →
        (J1.stop j H ∧ P1 H) ∨ (J1.go j H ∧ ∃ Nx1 : Hp → Prop, (∀ H', Nx1 H' → ∃ k', k' < k ∧ W1 (j + 1) k' H') ∧ ∀ x H', J1.yld j H x H' → g1 x (wipe σ2 vs1) H' fun σ3 H5 => wipe σ3 vs1 = wipe σ2 vs1 ∧ tt1 σ3 H5 fun b H6 =>
          if b = true then te σ3 H6 fun y H7 => ∃ acc, H7 D = some (.lst acc) ∧ acc.length < sizeLine ∧ Nx1 (upd H7 D (.lst (acc ++ [y]))) else Nx1 H6)
      else P1 H3)
    (hd : ∀ H, P1 H → SqT K H a1 [x] ∧ Qd H) :
    ∃ W : Nat → Nat → Hp → Prop, (∃ m, W 0 m (upd H1 D (.lst []))) ∧ ∀ i m H, W i m H →
  ((Itt K a1).stop i H ∧ Qd H) ∨ ((Itt K a1).go i H ∧ ∃ Nx : Hp → Prop, (∀ H', Nx H' → ∃ m', m' < m ∧ W (i + 1) m' H') ∧ ∀ x H', (Itt K a1).yld i H x H' → g x (wipe σ vs) H' fun σ2 H2 => wipe σ2 vs = wipe σ vs ∧ tt σ2 H2 fun b H3 =>
    if b = true then wi1 σ2 H3 fun J1 H4 => ∃ W1 : Nat → Nat → Hp → Prop, (∃ m, W1 0 m H4) ∧ ∀ j k H, W1 j k H →
      (J1.stop j H ∧ Nx H) ∨ (J1.go j H ∧ ∃ Nx1 : Hp → Prop, (∀ H', Nx1 H' → ∃ k', k' < k ∧ W1 (j + 1) k' H') ∧ ∀ x H', J1.yld j H x H' → g1 x (wipe σ2 vs1) H' fun σ3 H5 => wipe σ3 vs1 = wipe σ2 vs1 ∧ tt1 σ3 H5 fun b H6 =>
        if b = true then te σ3 H6 fun y H7 => ∃ acc, H7 D = some (.lst acc) ∧ acc.length < sizeLine ∧ Nx1 (upd H7 D (.lst (acc ++ [y]))) else Nx1 H6)
    else Nx H3) := by
  refine ⟨fun i m H => (i = 0 ∧ m = 1 ∧ H = upd H1 D (.lst [])) ∨ (i = 1 ∧ m = 0 ∧ P1 H), ⟨1, .inl ⟨rfl, rfl, rfl⟩⟩, ?_⟩
  rintro i m H (⟨rfl, rfl, rfl⟩ | ⟨rfl, rfl, p⟩)
  · refine .inr ⟨⟨[x], x, h0, rfl⟩, P1, fun H' p => ⟨0, Nat.zero_lt_one, .inr ⟨rfl, rfl, p⟩⟩, fun y H' hy => ?_⟩
    obtain ⟨rfl, hy⟩ := hy
    have e := hy _ h0
    cases e
    exact step
  · exact .inl ⟨⟨[x], (hd _ p).1, Nat.le_refl _⟩, (hd _ p).2⟩
end Pw
namespace Pw
open PySem PySem.Spec PyProof.Rows L2
def partsFault (many : Nat) (placed : List Nat) : Nat → List Nat → Option (Nat × Str)
  | _, [] => none
  | k, p :: ps => if 0 < p ∧ p < many then (if k ∈ placed then partsFault many placed (k + 1) ps else some (k, "part has no place")) else some (k, "unknown component")
def compsFault (many np : Nat) : Nat → List Cm → Option (Int × List Int × Str)
  | _, [] => none
  | k, c :: cs => match compFault many np k c.cs with
    | .inl f => some ((k : Int), f.1, f.2)
    | .inr _ => compsFault many np (k + 1) cs
def placedIn (g : Pg) : List Nat := match g.comps with
  | [] => []
  | c :: _ => partsIn (Tp.lst [] 0 [] c.cs)
def progFault (g : Pg) : Option (Int × List Int × Str) := match compsFault g.comps.length g.parts.length 0 g.comps with
  | some f => some f
  | none => (partsFault g.comps.length (placedIn g) 0 g.parts).map fun f => (-1, [(f.1 : Int)], f.2)
def spParts (C T : Addr) : Sp := fun vs H Q E => ∃ (g : Pg) (vp : V), vs = [vp] ∧ IsT H g.toT vp ∧ g.Fit ∧ g.comps ≠ [] ∧ GxR.TabG H T ∧
  match partsFault g.comps.length (placedIn g) 0 g.parts with
  | some f => Thrown C E (-1) [(f.1 : Int)] f.2 [T] H
  | none => ∀ H', Oth [T] H H' → GxR.TabG H' T → Q .non H'
def spCheck (C T : Addr) : Sp := fun vs H Q E => ∃ (g : Pg) (vp : V), vs = [vp] ∧ IsT H g.toT vp ∧ g.Fit ∧ g.comps ≠ [] ∧ GxR.TabG H T ∧
  match progFault g with
  | some f => Thrown C E f.1 f.2.1 f.2.2 [T] H
  | none => ∀ H', Oth [T] H H' → GxR.TabG H' T → Q .non H'
theorem partsFault_at {many : Nat} {placed ps : List Nat} {i p : Nat} (h : ps[i]? = some p) : partsFault many placed i (ps.drop i) = if 0 < p ∧ p < many then (if i ∈ placed then partsFault many placed (i + 1) (ps.drop (i + 1)) else some (i, "part has no place")) else some (i, "unknown component") := by
  have hi : i < ps.length := (List.getElem?_eq_some_iff.mp h).1
  have e : ps[i] = p := by rw [List.getElem?_eq_getElem hi] at h; exact Option.some.inj h
  rw [List.drop_eq_getElem_cons hi, e]
  rfl
theorem compsFault_at {many np : Nat} {cs : List Cm} {i : Nat} {c : Cm} (h : cs[i]? = some c) : compsFault many np i (cs.drop i) = match compFault many np i c.cs with
    | .inl f => some ((i : Int), f.1, f.2)
    | .inr _ => compsFault many np (i + 1) (cs.drop (i + 1)) := by
  have hi : i < cs.length := (List.getElem?_eq_some_iff.mp h).1
  have e : cs[i] = c := by rw [List.getElem?_eq_getElem hi] at h; exact Option.some.inj h
  rw [List.drop_eq_getElem_cons hi, e]
  rfl
end Pw
namespace Pw
open PySem PySem.Spec PyProof.Rows L2
/-! ### how long the data are when shown -/
def T.bulks (ts : List T) : Nat := PyData.bulkAll (T.dats ts)
theorem bulk_tup (ts : List T) : (T.tup ts).bulk = T.bulks ts := by unfold T.bulk T.bulks; simp only [T.dat, PyData.bulk]
theorem bulks_nil : T.bulks [] = 0 := rfl
theorem bulks_cons (t : T) (ts : List T) : T.bulks (t :: ts) = t.bulk + 1 + T.bulks ts := rfl
theorem bulks_app (b : List T) : ∀ a : List T, T.bulks (a ++ b) = T.bulks a + T.bulks b
  | [] => by simp [bulks_nil]
  | t :: a => by rw [List.cons_append, bulks_cons, bulks_cons, bulks_app b a]; omega
theorem slims_app {b : List T} (hb : T.slims b) : ∀ a : List T, T.slims a → T.slims (a ++ b)
  | [], _ => hb
  | t :: a, h => ⟨h.1, slims_app hb a h.2⟩
theorem bulk_int (i : Int) : (T.int i).bulk = 0 := rfl
theorem bulk_non : T.non.bulk = 0 := rfl
theorem bulk_str (s : Str) : (T.str s).bulk = s.cps.size := rfl
def eb : Nat → Nat
  | 0 => 8
  | d + 1 => 3 * eb d + 8
theorem eb_mono : ∀ d, eb d ≤ eb (d + 1) := fun d => by simp only [eb]; omega
theorem eb_le {d d' : Nat} (h : d ≤ d') : eb d ≤ eb d' := by
  induction h with
  | refl => exact Nat.le_refl _
  | step _ ih => exact Nat.le_trans ih (eb_mono _)
/-- an expression is short when shown -/
structure E.Thin (d : Nat) (e : E) : Prop where
  s : e.toT.slim
  b : e.toT.bulk ≤ eb d
theorem E.Thin.mono {d d' : Nat} {e : E} (h : e.Thin d) (l : d ≤ d') : e.Thin d' := ⟨h.s, Nat.le_trans h.b (eb_le l)⟩
theorem eb_pos : ∀ d, 8 ≤ eb d
  | 0 => Nat.le_refl _
  | d + 1 => by have := eb_pos d; simp only [eb]; omega
theorem slim_str {s : Str} (h : s.cps.toList.all (fun c => decide (c < 16 ^ 8)) = true) : (T.str s).slim := by
  rw [List.all_eq_true] at h
  exact fun c hc => of_decide_eq_true (h c hc)
theorem thin_leaf1 (x : Str) (n : Int) (d : Nat) (e : E) (he : e.toT = .tup [.str x, .int n]) (h0 : 0 ≤ n) (h1 : n < 16) (hx : x.cps.toList.all (fun c => decide (c < 16 ^ 8)) = true) (hz : x.cps.size ≤ 5) : e.Thin d := by
  have := eb_pos d
  refine ⟨by rw [he]; exact ⟨slim_str hx, ⟨h0, h1⟩, trivial⟩, ?_⟩
  rw [he, bulk_tup, bulks_cons, bulks_cons, bulks_nil, bulk_str, bulk_int]
  omega
theorem thin_index (d : Nat) : E.index.Thin d := by
  have := eb_pos d
  refine ⟨⟨slim_str (by decide), trivial⟩, ?_⟩
  show (T.tup [.str "index"]).bulk ≤ _
  rw [bulk_tup, bulks_cons, bulks_nil, bulk_str]
  have : ("index" : Str).cps.size = 5 := rfl
  omega
theorem thin_two {x : Str} {a b e : E} {d : Nat} (he : e.toT = .tup [.str x, a.toT, b.toT]) (ha : a.Thin d) (hb : b.Thin d) (hx : x.cps.toList.all (fun c => decide (c < 16 ^ 8)) = true) (hz : x.cps.size ≤ 5) : e.Thin (d + 1) := by
  have := eb_pos d
  refine ⟨by rw [he]; exact ⟨slim_str hx, ha.s, hb.s, trivial⟩, ?_⟩
  rw [he, bulk_tup, bulks_cons, bulks_cons, bulks_cons, bulks_nil, bulk_str]
  have := ha.b
  have := hb.b
  simp only [eb]
  omega
theorem thin_if {c a b : E} {d : Nat} (hc : c.Thin d) (ha : a.Thin d) (hb : b.Thin d) : (E.ite c a b).Thin (d + 1) := by
  refine ⟨⟨slim_str (by decide), hc.s, ha.s, hb.s, trivial⟩, ?_⟩
  show (T.tup [.str "if", c.toT, a.toT, b.toT]).bulk ≤ _
  rw [bulk_tup, bulks_cons, bulks_cons, bulks_cons, bulks_cons, bulks_nil, bulk_str]
  have := ha.b
  have := hb.b
  have := hc.b
  have : ("if" : Str).cps.size = 2 := rfl
  simp only [eb]
  omega
/-- a template is short when shown -/
structure Tp.Slim (t : Tp) : Prop where
  s : t.toT.slim
  b : t.toT.bulk + 1 ≤ 150 * t.cnt
structure Slims (ts : List Tp) : Prop where
  s : T.slims (Tp.toTs ts)
  b : T.bulks (Tp.toTs ts) ≤ 150 * Tp.cnts ts
  a : ∀ t ∈ ts, t.Slim
theorem Slims.nil : Slims [] := ⟨trivial, Nat.le_refl _, by simp⟩
theorem Slims.one {t : Tp} (h : t.Slim) : Slims [t] := ⟨⟨h.s, trivial⟩, by rw [Tp.toTs, Tp.toTs, bulks_cons, bulks_nil, Tp.cnts, Tp.cnts]; have := h.b; omega, by simpa using h⟩
theorem Slims.app {a b : List Tp} (ha : Slims a) (hb : Slims b) : Slims (a ++ b) := by
  refine ⟨by rw [toTs_app]; exact slims_app hb.s _ ha.s, ?_, fun t ht => (List.mem_append.mp ht).elim (ha.a t) (hb.a t)⟩
  rw [toTs_app, bulks_app, cnts_app]
  have := ha.b
  have := hb.b
  omega
theorem eb1 : eb 1 = 32 := rfl
theorem slim_text {s : Str} (h : s.cps.toList.all (fun c => decide (c < 16 ^ 8)) = true) (hz : s.cps.size ≤ 9) : (Tp.text s).Slim := by
  refine ⟨⟨slim_str (by decide), slim_str h, trivial⟩, ?_⟩
  show (T.tup [.str "text", .str s]).bulk + 1 ≤ 150 * 1
  rw [bulk_tup, bulks_cons, bulks_cons, bulks_nil, bulk_str, bulk_str]
  have : ("text" : Str).cps.size = 4 := rfl
  omega
theorem slim_show {e : E} (h : e.Thin 1) : (Tp.show e).Slim := by
  refine ⟨⟨slim_str (by decide), h.s, trivial⟩, ?_⟩
  show (T.tup [.str "show", e.toT]).bulk + 1 ≤ 150 * 1
  rw [bulk_tup, bulks_cons, bulks_cons, bulks_nil, bulk_str]
  have : ("show" : Str).cps.size = 4 := rfl
  have := h.b
  have := eb1
  omega
theorem key_thin {key : Option E} (h : ∀ e ∈ key, e.Thin 1) : (keyT key).slim ∧ (keyT key).bulk ≤ 32 := by
  cases key with
  | none => exact ⟨trivial, Nat.zero_le _⟩
  | some e => exact ⟨(h e rfl).s, (h e rfl).b⟩
theorem act_thin {act : Option Nat} (h : ∀ n ∈ act, n < 16) : (actT act).slim ∧ (actT act).bulk = 0 := by
  cases act with
  | none => exact ⟨trivial, rfl⟩
  | some n => exact ⟨⟨by omega, by have := h n rfl; omega⟩, rfl⟩
theorem slim_box {tag : Str} {key : Option E} {act : Option Nat} {cs : List Tp} (ht : tag.cps.toList.all (fun c => decide (c < 16 ^ 8)) = true) (hz : tag.cps.size ≤ 9) (hk : ∀ e ∈ key, e.Thin 1) (ha : ∀ n ∈ act, n < 16) (hc : Slims cs) : (Tp.box tag key act cs).Slim := by
  obtain ⟨k1, k2⟩ := key_thin hk
  obtain ⟨a1, a2⟩ := act_thin ha
  refine ⟨⟨slim_str (by decide), slim_str ht, k1, a1, hc.s, trivial⟩, ?_⟩
  show (T.tup [.str "box", .str tag, keyT key, actT act, .tup (Tp.toTs cs)]).bulk + 1 ≤ 150 * (Tp.cnts cs + 1)
  rw [bulk_tup, bulks_cons, bulks_cons, bulks_cons, bulks_cons, bulks_cons, bulks_nil, bulk_str, bulk_str, bulk_tup]
  have : ("box" : Str).cps.size = 3 := rfl
  have := hc.b
  omega
theorem slim_when {e : E} {cs os : List Tp} (he : e.Thin 1) (hc : Slims cs) (ho : Slims os) : (Tp.when e cs os).Slim := by
  refine ⟨⟨slim_str (by decide), he.s, hc.s, ho.s, trivial⟩, ?_⟩
  show (T.tup [.str "when", e.toT, .tup (Tp.toTs cs), .tup (Tp.toTs os)]).bulk + 1 ≤ 150 * (Tp.cnts cs + Tp.cnts os + 1)
  rw [bulk_tup, bulks_cons, bulks_cons, bulks_cons, bulks_cons, bulks_nil, bulk_str, bulk_tup, bulk_tup]
  have : ("when" : Str).cps.size = 4 := rfl
  have := hc.b
  have := ho.b
  have := he.b
  have := eb1
  omega
theorem slim_each {e : E} {cs : List Tp} (he : e.toT.slim) (hb : e.toT.bulk ≤ 130) (hc : Slims cs) : (Tp.each e cs).Slim := by
  refine ⟨⟨slim_str (by decide), he, hc.s, trivial⟩, ?_⟩
  show (T.tup [.str "each", e.toT, .tup (Tp.toTs cs)]).bulk + 1 ≤ 150 * (Tp.cnts cs + 1)
  rw [bulk_tup, bulks_cons, bulks_cons, bulks_cons, bulks_nil, bulk_str, bulk_tup]
  have : ("each" : Str).cps.size = 4 := rfl
  have := hc.b
  omega
theorem thin_count {a b : E} {n : Int} (ha : a.Thin 1) (hb : b.Thin 0) (h0 : 0 ≤ n) (h1 : n < 16) : (E.plus (.same a b) (.num n)).toT.slim ∧ (E.plus (.same a b) (.num n)).toT.bulk ≤ 130 := by
  refine ⟨⟨slim_str (by decide), ⟨slim_str (by decide), ha.s, hb.s, trivial⟩, ⟨slim_str (by decide), ⟨h0, h1⟩, trivial⟩, trivial⟩, ?_⟩
  show (T.tup [.str "plus", .tup [.str "same", a.toT, b.toT], .tup [.str "num", .int n]]).bulk ≤ 130
  simp only [bulk_tup, bulks_cons, bulks_nil, bulk_str, bulk_int]
  have : ("plus" : Str).cps.size = 4 := rfl
  have : ("same" : Str).cps.size = 4 := rfl
  have : ("num" : Str).cps.size = 3 := rfl
  have := ha.b
  have := hb.b
  have := eb1
  have : eb 0 = 8 := rfl
  omega
theorem thins_bulk : ∀ es : List E, (∀ e ∈ es, e.Thin 1) → T.slims (es.map E.toT) ∧ T.bulks (es.map E.toT) ≤ 33 * es.length
  | [], _ => ⟨trivial, Nat.le_refl _⟩
  | e :: es, h => by
    obtain ⟨a, b⟩ := thins_bulk es fun x hx => h x (List.mem_cons_of_mem _ hx)
    have he := h e List.mem_cons_self
    refine ⟨⟨he.s, a⟩, ?_⟩
    rw [List.map_cons, bulks_cons, List.length_cons]
    have := he.b
    have := eb1
    omega
theorem slim_child {c : Nat} {key : Option E} {es : List E} (hc : c < 16) (hk : ∀ e ∈ key, e.Thin 1) (hl : es.length ≤ 2) (he : ∀ e ∈ es, e.Thin 1) : (Tp.child c key es).Slim := by
  obtain ⟨k1, k2⟩ := key_thin hk
  obtain ⟨p1, p2⟩ := thins_bulk es he
  refine ⟨⟨slim_str (by decide), ⟨by omega, by omega⟩, k1, p1, trivial⟩, ?_⟩
  show (T.tup [.str "child", .int (c : Int), keyT key, .tup (es.map E.toT)]).bulk + 1 ≤ 150 * 1
  rw [bulk_tup, bulks_cons, bulks_cons, bulks_cons, bulks_cons, bulks_nil, bulk_str, bulk_tup, bulk_int]
  have : ("child" : Str).cps.size = 5 := rfl
  omega
theorem slim_part {n : Nat} (h : n < 16) : (Tp.part n).Slim := by
  refine ⟨⟨slim_str (by decide), ⟨by omega, by omega⟩, trivial⟩, ?_⟩
  show (T.tup [.str "part", .int (n : Int)]).bulk + 1 ≤ 150 * 1
  rw [bulk_tup, bulks_cons, bulks_cons, bulks_nil, bulk_str, bulk_int]
  have : ("part" : Str).cps.size = 4 := rfl
  omega
def spExpr1 (n : Nat) : Sp := fun vs H Q _ => ∃ (b dg pl : Addr) (d : Nat), vs = [.ref b, .int (d : Int)] ∧ d < n ∧ Bx H b dg pl ∧
  ∀ (e : E) (v : V) (H' : Hp), e.depth ≤ d → e.Thin d → IsT H' e.toT v → Bx H' b dg pl → Oth [b] H H' → Q v H'
def spKey1 : Sp := fun vs H Q _ => ∃ (b dg pl : Addr), vs = [.ref b] ∧ Bx H b dg pl ∧
  ∀ (k : Option E) (v : V) (H' : Hp), (∀ e ∈ k, e.depth ≤ 1) → (∀ e ∈ k, e.Thin 1) → IsT H' (keyT k) v → Bx H' b dg pl → Oth [b] H H' → Q v H'
def spTemplate1 (n : Nat) : Sp := fun vs H Q _ => ∃ (b dg pl : Addr) (own level last r : Nat) (free : Bool), vs = [.ref b, .int (own : Int), .int (level : Int), .int (last : Int), .bl free] ∧ level + r = 3 ∧ r < n ∧ last ≤ 10 ∧ Bx H b dg pl ∧
  ∀ (t : Tp) (v : V) (H' : Hp), t.dep ≤ r → t.cnt ≤ numT r → t.Fine → t.Slim → IsT H' t.toT v → Bx H' b dg pl → Oth [b, pl] H H' → Q v H'
def spContents1 (n : Nat) : Sp := fun vs H Q _ => ∃ (b dg pl : Addr) (own level last r : Nat) (free : Bool), vs = [.ref b, .int (own : Int), .int (level : Int), .int (last : Int), .bl free] ∧ level + r = 3 ∧ r < n ∧ last ≤ 10 ∧ Bx H b dg pl ∧
  ∀ (ts : List Tp) (v : V) (H' : Hp), Tp.deps ts ≤ r → Tp.cnts ts ≤ 3 * numT r → Tp.Fines ts → Slims ts → IsT H' (.tup (Tp.toTs ts)) v → Bx H' b dg pl → Oth [b, pl] H H' → Q v H'
theorem slim_input {n : Nat} (h : n < 16) : (Tp.input "q" n).Slim := by
  refine ⟨⟨slim_str (by decide), slim_str (by decide), ⟨by omega, by omega⟩, trivial⟩, ?_⟩
  show (T.tup [.str "input", .str "q", .int (n : Int)]).bulk + 1 ≤ 150 * 1
  rw [bulk_tup, bulks_cons, bulks_cons, bulks_cons, bulks_nil, bulk_str, bulk_str, bulk_int]
  have : ("input" : Str).cps.size = 5 := rfl
  have : ("q" : Str).cps.size = 1 := rfl
  omega
end Pw
namespace Pw
open PySem PySem.Spec PyProof.Rows L2
structure RowOk (k d : Nat) (ts : List T) : Prop where
  s : T.slims ts
  b : T.bulks ts ≤ k * ts.length
  d : ∀ t ∈ ts, Dep d t
theorem RowOk.nil {k d : Nat} : RowOk k d [] := ⟨trivial, Nat.zero_le _, by simp⟩
theorem RowOk.snoc {k d : Nat} {ts : List T} {t : T} (h : RowOk k d ts) (hs : t.slim) (hb : t.bulk + 1 ≤ k) (hd : Dep d t) : RowOk k d (ts ++ [t]) := by
  refine ⟨slims_app (b := [t]) ⟨hs, trivial⟩ _ h.s, ?_, fun u hu => ?_⟩
  · rw [bulks_app, bulks_cons, bulks_nil, List.length_append, List.length_singleton, Nat.mul_add, Nat.mul_one]
    have := h.b
    omega
  · rcases List.mem_append.mp hu with q | q
    · exact h.d u q
    · rw [List.mem_singleton.mp q]; exact hd
structure ActOk (t : T) : Prop where
  s : t.slim
  b : t.bulk ≤ 400
  d : Dep 10 t
def spActions1 : Sp := fun vs H Q _ => ∃ (b dg pl : Addr), vs = [.ref b] ∧ Bx H b dg pl ∧
  ∀ (t : T) (v : V) (H' : Hp), ActOk t → IsT H' t v → Bx H' b dg pl → Oth [b] H H' → Q v H'
theorem step_ok {x : Str} {n : Int} {e : E} (hx : x.cps.toList.all (fun c => decide (c < 16 ^ 8)) = true) (hz : x.cps.size ≤ 5) (h0 : 0 ≤ n) (h1 : n < 16) (he : e.Thin 1) (hd : e.depth ≤ 1) : (T.tup [.str x, .int n, e.toT]).slim ∧ (T.tup [.str x, .int n, e.toT]).bulk + 1 ≤ 45 ∧ Dep 6 (T.tup [.str x, .int n, e.toT]) := by
  refine ⟨⟨slim_str hx, ⟨h0, h1⟩, he.s, trivial⟩, ?_, .tup 5 _ (by simp) ?_⟩
  · rw [bulk_tup, bulks_cons, bulks_cons, bulks_cons, bulks_nil, bulk_str, bulk_int]
    have := he.b
    have := eb1
    omega
  · simp only [List.mem_cons, List.not_mem_nil, or_false, forall_eq_or_imp, forall_eq]
    exact ⟨.str _ _, .int _ _, (E.dep e).mono (by omega)⟩
theorem step_up {n : Int} (h0 : 0 ≤ n) (h1 : n < 16) : (T.tup [.str "up", .int n]).slim ∧ (T.tup [.str "up", .int n]).bulk + 1 ≤ 45 ∧ Dep 6 (T.tup [.str "up", .int n]) := by
  refine ⟨⟨slim_str (by decide), ⟨h0, h1⟩, trivial⟩, ?_, .tup 5 _ (by simp) ?_⟩
  · rw [bulk_tup, bulks_cons, bulks_cons, bulks_nil, bulk_str, bulk_int]
    have : ("up" : Str).cps.size = 2 := rfl
    omega
  · simp only [List.mem_cons, List.not_mem_nil, or_false, forall_eq_or_imp, forall_eq]
    exact ⟨.str _ _, .int _ _⟩
theorem RowOk.tup {k d : Nat} {ts : List T} (h : RowOk k d ts) (hl : ts.length ≤ 100000) : (T.tup ts).slim ∧ (T.tup ts).bulk ≤ k * ts.length ∧ Dep (d + 1) (T.tup ts) := ⟨h.s, by rw [bulk_tup]; exact h.b, .tup _ _ hl h.d⟩
/-- programs, behind j changes -/
structure Cm.Good (j : Nat) (c : Cm) : Prop where
  deps : Tp.deps c.cs ≤ 3 + 4 * j
  cnts : Tp.cnts c.cs ≤ 1560 + 40 * j
  fines : Tp.Fines c.cs
  slims : Slims c.cs
  cl : c.cells.length ≤ 2
  cells : ∀ n ∈ c.cells, n < 16
  acts : ActOk c.acts
structure Pg.Good (j : Nat) (g : Pg) : Prop where
  comps : ∀ c ∈ g.comps, c.Good j
  ne : g.comps ≠ []
  many : g.comps.length ≤ 3
  pl : g.parts.length ≤ 2 + j
  parts : ∀ n ∈ g.parts, n < 16
  sl : g.store.length ≤ 2
  store : ∀ n ∈ g.store, n < 16
def spProgram1 : Sp := fun vs H Q _ => ∃ (b dg pl : Addr), vs = [.ref b] ∧ Bx H b dg pl ∧
  ∀ (g : Pg) (v : V) (pl' : Addr) (H' : Hp), g.Good 0 → IsT H' g.toT v → Bx H' b dg pl' → Oth [b] H H' → Q v H'
theorem slims_parts : ∀ us : List Nat, (∀ n ∈ us, n < 16) → Slims (us.map Tp.part)
  | [], _ => Slims.nil
  | u :: us, h => (Slims.one (slim_part (h u List.mem_cons_self))).app (slims_parts us fun n hn => h n (List.mem_cons_of_mem _ hn))
theorem natV_toNat {r : Int} (h : 0 ≤ r) : V.int r = natV r.toNat := by
  show V.int r = V.int ((r.toNat : Nat) : Int)
  rw [Int.toNat_of_nonneg h]
end Pw
namespace Pw
open PySem PySem.Spec PyProof.Rows L2
/-- a row that the law lists: its own list, its list of kinds; neither is p -/
def LRowN (p : Addr) (H : Hp) (r : Rw) (v : V) : Prop := ∃ (a z : Addr) (x y : V), v = .ref a ∧ a ≠ p ∧ z ≠ p ∧ H a = some (.lst [x, y, .ref z]) ∧ H z = some (.lst (r.ar.map V.str)) ∧ IsT H (.tup (r.place.map .int)) x ∧ IsT H r.tp.toT y
def LRowsN (p : Addr) (H : Hp) (R : List Rw) (rs : List V) : Prop := Paired (fun r v => LRowN p H r v) R rs
theorem LRowN.oth {p : Addr} {H H' : Hp} {S : List Addr} {r : Rw} {v : V} (h : LRowN p H r v) (o : Oth S H H') (hS : ∀ a ∈ S, a = p) : LRowN p H' r v := by
  obtain ⟨a, z, x, y, e, na, nz, ha, hz, tx, ty⟩ := h
  exact ⟨a, z, x, y, e, na, nz, o.keep a _ (fun m => na (hS a m)) ha, o.keep z _ (fun m => nz (hS z m)) hz, tx.oth o, ty.oth o⟩
theorem LRowN.re {p p' : Addr} {H : Hp} {r : Rw} {v : V} (h : LRowN p H r v) (n : H p' = none) : LRowN p' H r v := by
  obtain ⟨a, z, x, y, e, na, nz, ha, hz, tx, ty⟩ := h
  exact ⟨a, z, x, y, e, ne_of_none ha n, ne_of_none hz n, ha, hz, tx, ty⟩
theorem LRowsN.oth {p : Addr} {H H' : Hp} {S : List Addr} (o : Oth S H H') (hS : ∀ a ∈ S, a = p) : ∀ {R : List Rw} {rs : List V}, LRowsN p H R rs → LRowsN p H' R rs
  | _, _, .nil => .nil
  | _, _, .cons h t => .cons (h.oth o hS) (LRowsN.oth o hS t)
theorem LRowsN.re {p p' : Addr} {H : Hp} (n : H p' = none) : ∀ {R : List Rw} {rs : List V}, LRowsN p H R rs → LRowsN p' H R rs
  | _, _, .nil => .nil
  | _, _, .cons h t => .cons (h.re n) (LRowsN.re n t)
theorem LRowsN.len {p : Addr} {H : Hp} : ∀ {R : List Rw} {rs : List V}, LRowsN p H R rs → rs.length = R.length
  | _, _, .nil => rfl
  | _, _, .cons _ t => congrArg (· + 1) (LRowsN.len t)
theorem LRowsN.get {p : Addr} {H : Hp} : ∀ {R : List Rw} {rs : List V}, LRowsN p H R rs → ∀ {i : Nat} {v : V}, rs[i]? = some v → ∃ r, R[i]? = some r ∧ LRowN p H r v
  | _, _, .nil, i, v, e => by simp at e
  | _, _, .cons h t, 0, v, e => by cases e; exact ⟨_, rfl, h⟩
  | _, _, .cons h t, i + 1, v, e => LRowsN.get t (i := i) e
structure LSt1 (H H1 : Hp) (p : Addr) (R : List Rw) (rs : List V) : Prop where
  new : H p = none
  oth : Oth [] H H1
  at_ : H1 p = some (.lst rs)
  rows : LRowsN p H1 R rs
section
variable {H H1 H2 : Hp} {p a p4 p3 z : Addr} {R R' : List Rw} {rs rs' : List V} {x y : V} {r : Rw}
theorem LSt1.go (h : LSt1 H H1 p R rs) (o : Oth [] H1 H2) : LSt1 H H2 p R rs := ⟨h.new, h.oth.trans o, o.keep p _ (by simp) h.at_, h.rows.oth o (by simp)⟩
theorem LSt1.push (h : LSt1 H H1 p R rs) (ha : H1 a = none) (hz : H z = some (.lst (r.ar.map V.str))) (hx : IsT H1 (.tup (r.place.map .int)) x) (hy : IsT H1 r.tp.toT y) :
    LSt1 H (upd (upd H1 a (.lst [x, y, .ref z])) p (.lst (rs ++ [.ref a]))) p (R ++ [r]) (rs ++ [.ref a]) := by
  have h1 := h.go (Oth.new (o := .lst [x, y, .ref z]) ha)
  have o1 : Oth [] H1 (upd H1 a (.lst [x, y, .ref z])) := Oth.new ha
  have op : Oth [p] (upd H1 a (.lst [x, y, .ref z])) (upd (upd H1 a (.lst [x, y, .ref z])) p (.lst (rs ++ [.ref a]))) := Oth.put (by simp) h1.at_
  have nap : a ≠ p := fun e => by rw [e] at ha; rw [h.at_] at ha; cases ha
  have nzp : z ≠ p := ne_of_none hz h.new
  refine ⟨h.new, Oth.drop (p := p) ((h1.oth.mono (by simp)).trans op) h.new, upd_same, Paired.appendP (h1.rows.oth op (by simp)) (.cons ⟨a, z, x, y, rfl, nap, nzp, op.keep a _ (by simp [nap]) upd_same, op.keep z _ (by simp [nzp]) (h1.oth.keep z _ (by simp) hz), (hx.oth o1).oth op, (hy.oth o1).oth op⟩ .nil)⟩
theorem LSt1.cat (h : LSt1 H H1 p R rs) (o : Oth [] H1 H2) (q : LRowsN p3 H2 R' rs') (n : H2 p4 = none) : LSt1 H (upd H2 p4 (.lst (rs ++ rs'))) p4 (R ++ R') (rs ++ rs') := by
  have h1 := h.go o
  have on : Oth [] H2 (upd H2 p4 (.lst (rs ++ rs'))) := Oth.new n
  refine ⟨?_, h1.oth.trans on, upd_same, Paired.appendP ((h1.rows.re n).oth on (by simp)) ((q.re n).oth on (by simp))⟩
  cases e : H p4 with
  | none => rfl
  | some u => rw [h1.oth.keep p4 _ (by simp) e] at n; cases n
end
def spListed1 (n : Nat) : Sp := fun vs H Q _ => ∃ (ts : List Tp) (pl : List Int) (ar : List Str) (vc vb : V) (aa : Addr), vs = [vc, vb, .ref aa] ∧ IsT H (.tup (Tp.toTs ts)) vc ∧ IsT H (.tup (pl.map .int)) vb ∧ H aa = some (.lst (ar.map V.str)) ∧
  Tp.deps ts < n ∧ Tp.cnts ts ≤ 5000 ∧ pl.length + 2 * n ≤ 1000 ∧ ar.length + n ≤ 1000 ∧
  ∀ (p : Addr) (H' : Hp) (rs : List V), LSt1 H H' p (Tp.lst pl 0 ar ts) rs → Q (.ref p) H'
end Pw
namespace Pw
open PySem PySem.Spec PyProof.Rows L2
def spPartFault : Sp := fun vs H Q _ => ∃ (g : Pg) (vp x y : V) (own p : Nat) (ra z e : Addr) (ar : List Str) (seen : List Nat), vs = [vp, .int (own : Int), .ref ra, .ref e] ∧ IsT H g.toT vp ∧ H ra = some (.lst [x, y, .ref z]) ∧ H z = some (.lst (ar.map V.str)) ∧ IsT H (Tp.part p).toT y ∧ H e = some (.lst (seen.map natV)) ∧
  Q (optS (reasonPart own g.parts.length p ar seen)) H
def faultT : Option (Int × List Int × Str) → T
  | none => .non
  | some f => .tup [.int f.1, .tup (f.2.1.map .int), .str f.2.2]
def Pg.Fits (g : Pg) : Prop := g.Fit ∧ g.comps ≠ []
def spFault : Sp := fun vs H Q _ => ∃ (g : Pg) (vp : V), vs = [vp] ∧ IsT H g.toT vp ∧ g.Fit ∧ g.comps ≠ [] ∧
  ∀ (v : V) (H' : Hp), IsT H' (faultT (progFault g)) v → Oth [] H H' → Q v H'
theorem rowsFault_parts {many np own : Nat} : ∀ {R : List Rw} {s0 s1 : List Nat}, rowsFault many np own R s0 = .inr s1 → s1 = s0 ++ partsIn R ∧ (own ≠ 0 → partsIn R = [])
  | [], s0, s1, h => by
    cases h
    exact ⟨by simp [partsIn], fun _ => rfl⟩
  | r :: R, s0, s1, h => by
    have h0 : rowsFault many np own (r :: R) s0 = match reasonOf many np own r.tp r.ar s0 with
        | some s => .inl (r.place, s)
        | none => rowsFault many np own R (seenOf r.tp s0) := rfl
    rw [h0] at h
    cases hr : reasonOf many np own r.tp r.ar s0 with
    | some s => rw [hr] at h; cases h
    | none =>
      rw [hr] at h
      obtain ⟨a, b⟩ := rowsFault_parts h
      have e : partsIn (r :: R) = partIn r.tp ++ partsIn R := rfl
      have e2 : seenOf r.tp s0 = s0 ++ partIn r.tp := by cases r.tp <;> simp [seenOf, partIn]
      refine ⟨by rw [a, e2, e, List.append_assoc], fun ho => ?_⟩
      rw [e, b ho, List.append_nil]
      unfold reasonOf at hr
      split at hr
      · cases hr
      · split at hr
        · next c key props heq => rw [heq]; rfl
        · unfold reasonPart at hr
          split at hr
          · cases hr
          · rw [if_pos (.inl ho)] at hr
            cases hr
        · cases ht : r.tp with
          | part n => simp_all
          | _ => rfl
theorem compFault_inr {many np own : Nat} {ts : List Tp} {s : List Nat} (h : compFault many np own ts = .inr s) : rowsFault many np own (Tp.lst [] 0 [] ts) [] = .inr s ∧ ¬ 24 < (Tp.lst [] 0 [] ts).length := by
  unfold compFault at h
  cases hr : rowsFault many np own (Tp.lst [] 0 [] ts) [] with
  | inl f => rw [hr] at h; cases h
  | inr s' =>
    rw [hr] at h
    dsimp only at h
    by_cases c : 24 < (Tp.lst [] 0 [] ts).length
    · rw [if_pos c] at h; cases h
    · rw [if_neg c] at h; cases h; exact ⟨rfl, c⟩
end Pw
namespace Pw
open PySem PySem.Spec PyProof.Rows L2
theorem sl_take {K : PySem.W.Frag} {H : Hp} {a : Addr} {xs : List V} {n : Nat} {Q : VK} (ha : H a = some (.tup xs)) (q : ∀ (c : Addr) (H' : Hp), Oth [] H H' → H' c = some (.tup (xs.take n)) → Q (.ref c) H') : rSlA K (.ref a) none (some (n : Int)) H Q := by
  refine ⟨a, xs, rfl, SqT.of ha, fun h => ?_, fun h p hp => ?_⟩
  · have z := h.2
    rw [HT.sIx_nat] at z
    exact q a H Oth.refl (by rw [List.take_of_length_le (by omega)]; exact ha)
  · refine q p _ (Oth.new hp) ?_
    rw [upd_same]
    unfold cutV
    rw [HT.sIx_none, HT.sIx_nat, List.drop_zero, Nat.sub_zero]
    by_cases c : n ≤ xs.length
    · rw [Nat.min_eq_left c]
    · rw [Nat.min_eq_right (by omega), List.take_of_length_le (Nat.le_refl _), List.take_of_length_le (by omega)]
theorem sl_drop {K : PySem.W.Frag} {H : Hp} {a : Addr} {xs : List V} {n : Nat} {Q : VK} (ha : H a = some (.tup xs)) (hn : n ≤ xs.length) (q : ∀ (c : Addr) (H' : Hp), Oth [] H H' → H' c = some (.tup (xs.drop n)) → Q (.ref c) H') : rSlA K (.ref a) (some (n : Int)) none H Q := by
  refine ⟨a, xs, rfl, SqT.of ha, fun h => ?_, fun h p hp => ?_⟩
  · have z := h.1
    rw [HT.sIx_nat] at z
    have : n = 0 := by omega
    subst this
    exact q a H Oth.refl (by rw [List.drop_zero]; exact ha)
  · refine q p _ (Oth.new hp) ?_
    rw [upd_same]
    unfold cutV
    rw [HT.sIx_none, HT.sIx_nat, Nat.min_eq_left hn]
    rw [List.take_of_length_le (by rw [List.length_drop]; omega)]
theorem paired_take {H : Hp} : ∀ {ts : List T} {xs : List V}, Paired (IsT H) ts xs → ∀ n, Paired (IsT H) (ts.take n) (xs.take n)
  | _, _, .nil, n => by rw [List.take_nil, List.take_nil]; exact .nil
  | _, _, .cons h t, 0 => .nil
  | _, _, .cons h t, n + 1 => .cons h (paired_take t n)
theorem paired_drop {H : Hp} : ∀ {ts : List T} {xs : List V}, Paired (IsT H) ts xs → ∀ n, Paired (IsT H) (ts.drop n) (xs.drop n)
  | _, _, .nil, n => by rw [List.drop_nil, List.drop_nil]; exact .nil
  | _, _, .cons h t, 0 => .cons h t
  | _, _, .cons h t, n + 1 => paired_drop t n
structure CsOk (j : Nat) (ts : List Tp) : Prop where
  deps : Tp.deps ts ≤ 3 + 4 * j
  cnts : Tp.cnts ts ≤ 1560 + 40 * j
  fines : Tp.Fines ts
  slims : Slims ts
theorem deps_take : ∀ (ts : List Tp) (n : Nat), Tp.deps (ts.take n) ≤ Tp.deps ts
  | [], n => by simp [Tp.deps]
  | t :: ts, 0 => by simp [Tp.deps]
  | t :: ts, n + 1 => by simp only [List.take_succ_cons, Tp.deps]; have := deps_take ts n; omega
theorem cnts_take' : ∀ (ts : List Tp) (n : Nat), Tp.cnts (ts.take n) ≤ Tp.cnts ts
  | [], n => by simp [Tp.cnts]
  | t :: ts, 0 => by simp [Tp.cnts]
  | t :: ts, n + 1 => by simp only [List.take_succ_cons, Tp.cnts]; have := cnts_take' ts n; omega
theorem fines_take : ∀ (ts : List Tp) (n : Nat), Tp.Fines ts → Tp.Fines (ts.take n)
  | [], n, _ => by simp [Tp.Fines]
  | t :: ts, 0, _ => trivial
  | t :: ts, n + 1, h => ⟨h.1, fines_take ts n h.2⟩
theorem toTs_take : ∀ (ts : List Tp) (n : Nat), Tp.toTs (ts.take n) = (Tp.toTs ts).take n := fun ts n => by rw [Tp.toTs_map, Tp.toTs_map, List.map_take]
theorem eachSlim : ∀ (ts : List Tp), (∀ t ∈ ts, t.Slim) → Slims ts
  | [], _ => Slims.nil
  | t :: ts, h => (Slims.one (h t List.mem_cons_self)).app (eachSlim ts fun u hu => h u (List.mem_cons_of_mem _ hu))
theorem Slims.take {ts : List Tp} (h : Slims ts) (n : Nat) : Slims (ts.take n) := eachSlim _ fun t ht => h.a t (List.mem_of_mem_take ht)
def wrap1 (k : Int) (cs : List Tp) : List Tp := if k = 0 then [.box "p" none none cs] else if k = 1 then [.when (.cell 0) cs []] else [.when (.num 1) [.text "a"] [.each (.num 2) cs]]
theorem wrap1_ok (k : Int) {cs : List Tp} (hf : Tp.Fines cs) (hs : Slims cs) : Tp.deps (wrap1 k cs) ≤ Tp.deps cs + 2 ∧ Tp.cnts (wrap1 k cs) ≤ Tp.cnts cs + 3 ∧ Tp.Fines (wrap1 k cs) ∧ Slims (wrap1 k cs) := by
  have n1 : (E.num 1).Thin 1 := thin_leaf1 "num" 1 1 _ rfl (by decide) (by decide) (by decide) (by decide)
  have n2 : (E.num 2).Thin 1 := thin_leaf1 "num" 2 1 _ rfl (by decide) (by decide) (by decide) (by decide)
  have c0 : (E.cell 0).Thin 1 := thin_leaf1 "cell" 0 1 _ rfl (by decide) (by decide) (by decide) (by decide)
  unfold wrap1
  split
  · refine ⟨by simp [Tp.deps, Tp.dep], by simp [Tp.cnts, Tp.cnt], ⟨⟨by simp, hf⟩, trivial⟩, .one (slim_box (by decide) (by decide) (by simp) (by simp) hs)⟩
  · split
    · refine ⟨by simp [Tp.deps, Tp.dep], by simp [Tp.cnts, Tp.cnt], ⟨⟨Nat.zero_le _, hf, trivial⟩, trivial⟩, .one (slim_when c0 hs .nil)⟩
    · refine ⟨by simp [Tp.deps, Tp.dep], by simp [Tp.cnts, Tp.cnt]; omega, ⟨⟨Nat.zero_le _, ⟨trivial, trivial⟩, ⟨⟨Nat.zero_le _, hf⟩, trivial⟩⟩, trivial⟩, .one (slim_when n1 (.one (slim_text (by decide) (by decide))) (.one (slim_each n2.s (Nat.le_trans n2.b (by decide)) hs)))⟩
def wraps (ks : List Int) (cs : List Tp) : List Tp := ks.foldl (fun c k => wrap1 k c) cs
theorem wraps_ok : ∀ (ks : List Int) {cs : List Tp}, Tp.Fines cs → Slims cs → Tp.deps (wraps ks cs) ≤ Tp.deps cs + 2 * ks.length ∧ Tp.cnts (wraps ks cs) ≤ Tp.cnts cs + 3 * ks.length ∧ Tp.Fines (wraps ks cs) ∧ Slims (wraps ks cs)
  | [], cs, hf, hs => ⟨Nat.le_refl _, Nat.le_refl _, hf, hs⟩
  | k :: ks, cs, hf, hs => by
    obtain ⟨a, b, c, d⟩ := wrap1_ok k hf hs
    obtain ⟨a', b', c', d'⟩ := wraps_ok ks c d
    refine ⟨?_, ?_, c', d'⟩
    · show Tp.deps (wraps ks (wrap1 k cs)) ≤ _
      rw [List.length_cons]; omega
    · show Tp.cnts (wraps ks (wrap1 k cs)) ≤ _
      rw [List.length_cons]; omega
def spWrapped : Sp := fun vs H Q _ => ∃ (ts : List Tp) (vc : V) (l : Addr) (ks : List Int), vs = [vc, .ref l] ∧ IsT H (.tup (Tp.toTs ts)) vc ∧ H l = some (.lst (ks.map V.int)) ∧ (∀ k ∈ ks, 0 ≤ k ∧ k < 3) ∧
  ∀ (v : V) (H' : Hp), IsT H' (.tup (Tp.toTs (wraps ks ts))) v → Oth [] H H' → Q v H'
def spChanged : Sp := fun vs H Q _ => ∃ (b dg pl : Addr) (vp : V) (g : Pg) (j : Nat), vs = [.ref b, vp] ∧ Bx H b dg pl ∧ IsT H g.toT vp ∧ g.Good j ∧ j ≤ 1 ∧
  ∀ (g' : Pg) (v : V) (H' : Hp), g'.Good (j + 1) → IsT H' g'.toT v → Bx H' b dg pl → Oth [b] H H' → Q v H'
theorem Cm.Good.mono {j : Nat} {c : Cm} (h : c.Good j) : c.Good (j + 1) := ⟨by have := h.deps; omega, by have := h.cnts; omega, h.fines, h.slims, h.cl, h.cells, h.acts⟩
theorem rep_flat (n : Nat) (x : V) : (List.replicate n [x]).flatten = List.replicate n x := by
  induction n with
  | zero => rfl
  | succ n ih => rw [List.replicate_succ, List.replicate_succ, List.flatten_cons, ih]; rfl
theorem paired_rep {H : Hp} {t : T} {x : V} (h : IsT H t x) : ∀ n, Paired (IsT H) (List.replicate n t) (List.replicate n x)
  | 0 => .nil
  | n + 1 => .cons h (paired_rep h n)
theorem rep_ok (n : Nat) : Tp.deps (List.replicate n (.text "b")) = 0 ∧ Tp.cnts (List.replicate n (.text "b")) = n ∧ Tp.Fines (List.replicate n (.text "b")) ∧ Slims (List.replicate n (.text "b")) ∧ Tp.toTs (List.replicate n (.text "b")) = List.replicate n (Tp.text "b").toT := by
  induction n with
  | zero => exact ⟨rfl, rfl, trivial, .nil, rfl⟩
  | succ n ih =>
    obtain ⟨a, b, c, d, e⟩ := ih
    rw [List.replicate_succ]
    refine ⟨by simp [Tp.deps, Tp.dep, a], by simp [Tp.cnts, Tp.cnt, b]; omega, ⟨trivial, c⟩, (Slims.one (slim_text (by decide) (by decide))).app d, ?_⟩
    rw [Tp.toTs, e, List.replicate_succ]
theorem cat_ts {H H' : Hp} {S : List Addr} {as bs : List Tp} {xs ys : List V} {c : Addr} (p1 : Paired (IsT H) (Tp.toTs as) xs) (p2 : Paired (IsT H) (Tp.toTs bs) ys) (o : Oth S H H') (e : H' c = some (.tup (xs ++ ys))) : IsT H' (.tup (Tp.toTs (as ++ bs))) (.ref c) :=
  .mk e (by rw [toTs_app]; exact paired_app (paired_oth p1 o) (paired_oth p2 o))
theorem Cm.Good.add {j : Nat} {c : Cm} (h : c.Good j) {ns : List Tp} (hd : Tp.deps ns ≤ 3 + 4 * (j + 1)) (hc : Tp.cnts ns ≤ 40) (hf : Tp.Fines ns) (hs : Slims ns) : CsOk (j + 1) (c.cs ++ ns) ∧ CsOk (j + 1) (ns ++ c.cs) := by
  have := h.deps
  have := h.cnts
  exact ⟨⟨by rw [deps_app]; omega, by rw [cnts_app]; omega, fines_app hf _ h.fines, h.slims.app hs⟩, ⟨by rw [deps_app]; omega, by rw [cnts_app]; omega, fines_app h.fines _ hf, hs.app h.slims⟩⟩
end Pw
namespace Pw
open PySem PySem.Spec PyProof.Rows L2
section
variable {X : Cx} {x : Str} {p pos : Pos} {e : Expr} {es : List Expr} {ta : TA}
/-- C(e, ..), C's own __init__ keeping sp; what is made has no context -/
theorem pmk_fault {C fI : Addr} {k : Nat} {fd : FuncData} {ps : List Str} {sp : Sp} {ds : List Value} {dvs : List V} (TC : FaultC X.K C fI) (F1 : FnOk X.prog X.w X.K X.mg X.base CX0 k fI fd ps sp) (hr : Room (k + 1) X.A) (hb : Binds X.K fd ps ds) (hd : Vals dvs ds) (hg : Gl X x) (hm : X.mg x = some (.ref C)) (ha : PA X (e :: es) ta)
    (hdb : (x == ("__debug__" : Str)) = false := by decide) (h1 : starEach (e :: es) X.env = (false, eval e X.env) :: starEach es X.env := by rfl) (h2 : (backTo pos (starEach es X.env)).any (·.1) = false := by rfl) :
    L2N.PMk X (.Call (.Name x p) (e :: es) [] pos) (tMkO C sp dvs ta) := by
  intro pins s σ H Q I h
  obtain ⟨nm, q, N, bs, bm, sn, sub, ab, col, dd, k0, k1, k2, k3, k5, hC, hbm⟩ := TC.T.cls
  refine wpAny_Call_Name_kw (ld_glob I hg hm ?_ hdb)
  refine PySem.W.callWith_K (h₀ := X.base) I.ok.mod.kin TC.T.kC (thn (ha.run pos pins s σ H _ I h) fun us s1 hh => ?_) h1 h2
  obtain ⟨vs, H1, I1, rel, hz, q1⟩ := hh
  refine ⟨I1.kIn, ?_⟩
  show wpAny _ _ (call (.ref C) us) _ _ _
  obtain ⟨hp, g, dr, tk, os⟩ := s1
  have top : hp.objs.size ≤ hp.objs.size + 1 := Nat.le_add_right _ _
  have goal := q1 (hp.objs.size + 1) (I1.hok.fresh top)
  have stay : ∀ b o, hp.get? b = some o → ((hp.push (PySem.W.kdv_tup us)).push (PySem.HandSPX.excO C hp.objs.size)).get? b = some o := fun b o z => Heap.get?_push_of_some _ (Heap.get?_push_of_some _ z)
  have there : ((hp.push (PySem.W.kdv_tup us)).push (PySem.HandSPX.excO C hp.objs.size)).get? (hp.objs.size + 1) = some (PySem.HandSPX.excO C hp.objs.size) := by heap_get
  have I2 : Inv X pins σ (upd H1 (hp.objs.size + 1) (exo (hp.objs.size + 1) C none)) ⟨(hp.push (PySem.W.kdv_tup us)).push (PySem.HandSPX.excO C hp.objs.size), g, dr, tk, os⟩ :=
    I1.laid (t' := tk) stay top (exo_ok there)
  have rel2 : Vals (V.ref (hp.objs.size + 1) :: (vs ++ dvs)) (Value.ref (hp.objs.size + 1) :: (us ++ ds)) := .cons rfl (rel.append hd)
  have len : (Value.ref (hp.objs.size + 1) :: us ++ ds).length = ps.length := by
    rw [← F1.len _ _ _ _ goal]
    exact rel2.length.symm
  have small : us.length ≤ sizeLine := by rw [← Paired.length rel, sizeLine_eq]; omega
  refine wpAny_call (PySem.HandSPX.call_own F.excBase_ValueError (fun Y => PySem.HandSPX.refsVE_contains Y bm hbm) (I1.kIn _ _ hC) (PySem.W.looks_findIn I1.kIn TC.i) (fun self => PySem.W.bind_fn I1.kIn self TC.t) small
    (codeAny_mono (F1.run _ X.stack _ _ ⟨Value.ref (hp.objs.size + 1) :: us, []⟩ (Value.ref (hp.objs.size + 1) :: (us ++ ds)) _ _ (fun _ _ _ => False) (hr.make C us []) (I2.env0.make C us []) (hb _ (Value.ref (hp.objs.size + 1) :: us) I2.kIn len) rel2 goal) fun r s' z => ?_))
  match r, z with
  | .ok (.ret u), ⟨v, H2, os2, bare, un, ok2, rv, ev, d, fs, ea, ed, hd1, q2⟩ =>
    subst ev
    obtain ⟨h', g2, d2, t2, os'⟩ := s'
    obtain ⟨t0, G, J, kG, ge, hoe, na⟩ := mk_end0 (d2 := d2) (t2 := t2) I1 top stay un ok2 os2 bare ea ed hd1
    exact ⟨rv, _, _, _, _, _, .ref C, some d, rfl, J, kG, ge, hoe, ⟨rfl, rfl, fun vs hv => by cases hv; rfl⟩, rfl, rfl, na, rfl, bare, raises_own TC.T.exC TC.T.tyC, q2⟩
  | .ok .next, z => exact z.elim
  | .ok .brk, z => exact z.elim
  | .ok .cont, z => exact z.elim
  | .error er, z => exact (show False from z).elim
end
/-- a def that may raise -/
theorem Fun.okN {P : Program} {w : World} {K : PySem.W.Frag} {mg : Str → Option Value} {base : Heap} {x qual : Str} {st : Stmt} {f : Addr} {fd : FuncData} {N ps : List Str} {k : Nat} {sp : Sp} (F : Fun K x qual st f fd) (S : FnScope N ps (defScope st)) (hlen : ∀ vs H Q E, sp vs H Q E → vs.length = ps.length)
    (hb : ∀ (cdv : Value) (A : Around) (outer : List Env) (s : Shared) (H : Hp) (vs : List V) (Q : VK) (E : XK), Room k (A.deeper (envOfC qual (defScope st) s.heap.objs.size f cdv)) → sp vs H Q E →
      ∃ t, PSs (cxOf (L2N.CX P w) P w K mg base N qual (defScope st) f cdv A outer s H E) (defBody st) t ∧ t { nx := fun _ H' => Q .non H', rt := Q } (start N vs) H) : FnOk P w K mg base (L2N.CX P w) (k + 1) f fd ps sp := by
  obtain ⟨oc, od, kV, doc, pm, an, cdv, ct, osl, rfl, lk, hcd⟩ := F.ex
  exact fn_of lk hcd S hlen fun A outer s H vs Q E => hb cdv A outer s H vs Q E
/-! ### isinstance of the caught fault -/
structure XIs (K : PySem.W.Frag) (C : Addr) : Prop where
  c : (PySem.W.clsIn K C).isSome = true
  hg : PySem.W.findIn K (.ref C) "__getattribute__" = some (some (.builtin "BaseException.__getattribute__"))
  hk : PySem.W.findIn K (.ref C) "__getattr__" = some none
  hs : PySem.W.subIn K (.ref C) (.type "BaseException") = some true
  ha : PySem.W.findIn K (.ref C) "__class__" = some (some (.builtin "object.__class__"))
  hn : PySem.W.specialIn K (.builtin "object.__class__") "__get__" = some (some (.builtin "getset_descriptor.__get__"))
  ht : PySem.W.takesIn K (.builtin "object.__class__") = some true
  hm : PySem.W.mroIn K C (.type "object") = some true
def rIsX (K : PySem.W.Frag) (C a : Addr) (cls : Value) (d : Option Addr) : List V → Hp → VK → Prop := fun xs H Q => ∃ (c : V) (cv : Value) (b : Bool) (dd : Addr) (fs : List (Str × V)), xs = [.ref a, c] ∧ (∀ u, RelV c u → u = cv) ∧ PySem.W.kitOne K (.ref C) cv = some b ∧ cls = .ref C ∧ d = some dd ∧ H dd = some (.xd fs) ∧ Q (.bl b) H
theorem call_isX {X : Cx} {a C : Addr} {oe : Obj} {cls : Value} {d : Option Addr} {pn : List (Addr × Obj)} (T : XIs X.K C) (hz : Zc cls d oe) (hf : ∃ vs, oe.data = .fields vs) : CallR (X.suite a ((a, oe) :: pn)) (.builtin "isinstance") (rIsX X.K C a cls d) := by
  intro pins s σ H xs us Q I r h
  obtain ⟨c, cv, b, dd, fs, rfl, hcv, e, rfl, rfl, ea, q⟩ := h
  cases r with
  | cons rx rr =>
    cases rr with
    | cons rt rr =>
      cases rr
      cases rx
      cases hcv _ rt
      have at_ := (I.pin (a, oe) (List.mem_append.mpr (.inl List.mem_cons_self))).1
      obtain ⟨vs, hv⟩ := hf
      obtain ⟨mA, hns, hr⟩ : ∃ mA, s.heap.Ns1 dd mA ∧ ∀ f, RelO (fs.lookup f) (mA f) := I.hok dd _ ea
      obtain ⟨od, ho, hl⟩ := lookIn_ns hns
      have J : PySem.W.InstAt s.heap a oe C (some od) := ⟨at_, hz.1, by unfold PySem.W.notCls; rw [hv] <;> rfl, by rw [hz.2]; exact ho⟩
      exact PySem.W.kia_one (PySem.W.kitx_exc T.c T.hg T.hk T.hs T.ha T.hn T.ht T.hm) I.kIn J e (fun z => nomatch z) fun tk => ⟨.bl b, H, I.kept (t' := tk) fun _ _ z => z, rfl, q⟩
end Pw
namespace Pw
open PySem PySem.Spec PyProof.Rows L2
/-! ### one run of a def, at one place -/
theorem run_at {CX : CXT} {P : Program} {w : World} {K : PySem.W.Frag} {mg : Str → Option Value} {base : Heap} {x : Str} {st : Stmt} {f c : Addr} {fd : FuncData} {N ps : List Str} {k : Nat} {A : Around} {s : Shared} {H : Hp} {args : Args} {us : List Value} {vs : List V} {Q : VK} {E : XK}
    (C : CodeAt K x st f fd c) (S : FnScope N ps (defScope st)) (hr : Room (k + 1) A) {out : List Env} (e0 : Env0 P w K mg base A out s H) (hb : BindsTo s fd args (ps.zip us)) (r : Vals vs us) (hl : vs.length = ps.length)
    (body : ∃ t, PSs (cxOf CX P w K mg base N x (defScope st) f (.ref c) A out s H E) (defBody st) t ∧ t { nx := fun _ H' => Q .non H', rt := Q } (start N vs) H) :
    codeAny (model P w) A (.call (.ref f) args) (CR CX out P w H s Q E) s := by
  obtain ⟨oc, kV, doc, pm, ct, od, an, osl, rfl, lk, hcd, _⟩ := C
  have old : ∀ b o, base.get? b = some o → s.heap.get? b = some o := fun b o z => (e0.bs b o z).1
  have kin := e0.mod.kin.keeps old
  refine codeAny_call_function hr.depth (kin _ _ lk) rfl S.co S.gen rfl (PySem.W.codeRec_of kin hcd) (hb _ _ _ _ ?_)
  refine wpAny_newFunctionEnv_cells S.kind (fun y hy => ?_) fun env he s1 inn => ?_
  · obtain ⟨n, v⟩ := y
    exact (S.par n (List.of_mem_zip hy).1).elim Or.inl fun z => Or.inr ⟨z, PySem.W.cellsFrom_some _ _ _ (.inl z)⟩
  cases he
  refine ⟨e0.mod.nolimit.keeps fun b o z => inn.toInCall.keep b o (old b o z), codeAny_func ?_⟩
  obtain ⟨t, ht, q⟩ := body
  refine wpAny_mono (ht.run [] s1 (start N vs) H _ (inv_start S hr.hd e0 hl r inn) q) (fun fl s' z => ?_) fun e s' z => z
  have up : ∀ {σ' : L2.St} {H' : Hp} {v : V} {u : Value}, Inv (cxOf CX P w K mg base N x (defScope st) f (.ref c) A out s H E) [] σ' H' s' → RelV v u → Q v H' → CE out P w H s Q u s' := fun J rv z => ⟨_, _, J.os, J.bare, J.base, J.hok, rv, z⟩
  cases fl with
  | next => obtain ⟨σ', H', J, z⟩ := z; exact up (v := .non) (u := .none) J rfl z
  | ret u => obtain ⟨v, σ', H', J, rv, z⟩ := z; exact up J rv z
  | brk => obtain ⟨_, _, _, z⟩ := z; exact z.elim
  | cont => obtain ⟨_, _, _, z⟩ := z; exact z.elim
/-! ### the law's own run, whose guards are known -/
/-- what is tracked at first: the tables, and the script if it is not in K -/
noncomputable def start0 (K : PySem.W.Frag) (tabs : List Addr) (a : Addr) (u : HO) : Hp :=
  open Classical in fun b => if b ∈ tabs then some (.tbl #[]) else if b = a ∧ K.lookup a = none then some u else none
section
variable {K : PySem.W.Frag} {tabs : List Addr} {a b : Addr} {u o : HO}
theorem start0_tab (h : b ∈ tabs) : start0 K tabs a u b = some (.tbl #[]) := if_pos h
theorem start0_a (h : a ∉ tabs) (n : K.lookup a = none) : start0 K tabs a u a = some u := (if_neg h).trans (if_pos ⟨rfl, n⟩)
theorem start0_inv (h : start0 K tabs a u b = some o) : (b ∈ tabs ∧ o = .tbl #[]) ∨ (b ∉ tabs ∧ b = a ∧ K.lookup a = none ∧ o = u) := by
  unfold start0 at h
  split at h
  · next z => cases h; exact .inl ⟨z, rfl⟩
  · next z =>
    split at h
    · next y => cases h; exact .inr ⟨z, y.1, y.2, rfl⟩
    · cases h
end
theorem law_top {P : Program} {w : World} {K : PySem.W.Frag} {mg mb : Str → Option Value} {fa a : Addr} {cs : List (Addr × Addr)} {s : Shared} {vs : List Value} {ns : List Int}
    (KX : K.In s.heap) (hns : s.heap.Ns mainGlobals mg) (hb : s.heap.Ns builtinsNs mb) (hbb : ∀ x : Str, x ≠ "__name__" → mb x = bootBuiltins x) (hlim : s.heap.NoLimit) (hg : s.gens = #[])
    (hT : ∀ p ∈ cs, s.heap.get? p.2 = some { cls := .none, data := .fields #[] }) (nT : ∀ p ∈ cs, K.lookup p.2 = none) (hC : ∀ p ∈ cs, PySem.W.CodeHd s.heap p.1 p.2)
    (hbm : ∃ (bm : Addr) (ob : Obj), mg "__builtins__" = some (.ref bm) ∧ bm ≠ builtinsNs ∧ s.heap.get? bm = some ob ∧ ob.cls = .type "module" ∧ ob.dict = some builtinsNs ∧ ob.data = .plain)
    (ha : s.heap.get? a = some { cls := .type "list", data := .seq vs.toArray }) (hi : IntsAre vs ns) (hl : ns.length ≤ sizeLine)
    (run : ∀ (base : Heap) (H : Hp), (∀ p ∈ cs, GxR.TabB base mg p.1 p.2) → Env0 P w K mg base callerA [] s H → (∀ p ∈ cs, H p.2 = some (.tbl #[])) → SqL K H a (ns.map V.int) →
      codeAny (model P w) callerA (.call (.ref fa) ⟨[.ref a], []⟩) (CR CX0 [] P w H s (fun v _ => v = .bl true) fun _ _ _ => False) s) :
    codeAny (model P w) callerA (.call (.ref fa) ⟨[.ref a], []⟩) (fun r s' => r = .ok (.ret (.bool true)) ∧ OldK s.heap s'.heap ∧ s'.os = s.os ∧ AllBare s'.gens) s := by
  have rv := vals_ints hi
  have nv : vs.length ≤ sizeLine := by rw [hi.length]; exact hl
  have tabs : ∀ b, b ∈ cs.map (·.2) → s.heap.get? b = some { cls := .none, data := .fields #[] } ∧ K.lookup b = none := fun b z => by
    obtain ⟨p, hp, rfl⟩ := List.mem_map.mp z
    exact ⟨hT p hp, nT p hp⟩
  have aT : a ∉ cs.map (·.2) := fun z => by
    have e := (tabs a z).1
    rw [ha] at e
    cases e
  let u : HO := .frz { cls := .type "list", data := .seq vs.toArray } (.lst (ns.map V.int))
  let H := start0 K (cs.map (·.2)) a u
  have free : ∀ {b : Addr} {o : Obj}, s.heap.get? b = some o → o.data ≠ .fields #[] → (b = a → K.lookup a ≠ none) → H b = none := fun {b o} e d n => by
    cases z : H b with
    | none => rfl
    | some x =>
      rcases start0_inv z with ⟨m, _⟩ | ⟨_, y, l, _⟩
      · rw [(tabs b m).1] at e; cases e; exact (d rfl).elim
      · exact absurd l (n y)
  have na : ∀ {b : Addr} {o : Obj}, s.heap.get? b = some o → (∀ n, o.data ≠ .seq vs.toArray n) → b = a → K.lookup a ≠ none := fun {b o} e d y => by
    rw [y, ha] at e; cases e; exact (d _ rfl).elim
  have low : ∀ {b : Addr} {m : Str → Option Value}, s.heap.Ns b m → (hidT s.heap H).Ns b m := fun {b m} ⟨o, es, ep, e, d, r⟩ =>
    ⟨o, es, ep, hidT_get e (free e (by rw [d]; exact fun z => by cases z) (na e fun n z => by rw [d] at z; cases z)), d, r⟩
  have M : L2.Mod K mg (hidT s.heap H) := by
    refine ⟨fun b o e => hidT_get (KX b o e) ?_, low hns, ⟨mb, low hb, hbb⟩, let ⟨mc, h1, h2⟩ := hlim; ⟨mc, low h1, h2⟩⟩
    cases z : H b with
    | none => rfl
    | some x =>
      rcases start0_inv z with ⟨m, _⟩ | ⟨_, y, l, _⟩
      · rw [(tabs b m).2] at e; cases e
      · rw [y, l] at e; cases e
  have ok : HOk P w H s.heap := fun b o z => by
    rcases start0_inv z with ⟨m, rfl⟩ | ⟨_, rfl, _, rfl⟩
    · exact (tabs b m).1
    · exact ⟨ha, by rw [List.length_map]; exact hl, vs, _, rv, ha⟩
  have TB : ∀ p ∈ cs, GxR.TabB (hidT s.heap H) mg p.1 p.2 := fun p hp => by
    have e0 := hT p hp
    refine ⟨?_, ?_, fun z => ?_⟩
    · obtain ⟨o, us, file, tf, flags, tg, inF, text, tt, e1, r1, r2, rest⟩ := hC p hp
      refine ⟨o, us, file, tf, flags, tg, inF, text, tt, hidT_get e1 (free e1 (fun z => ?_) (na e1 fun n z => ?_)), r1, r2, rest⟩
      · rw [r2] at z; cases z; simp at rest
      · rw [r2] at z; cases z
    · obtain ⟨bm, ob, b1, b2, b3, b4, b5, b6⟩ := hbm
      refine ⟨bm, ob, b1, b2, fun z => ?_, fun z => ?_, hidT_get b3 (free b3 (by rw [b6]; exact fun z => by cases z) (na b3 fun n z => by rw [b6] at z; cases z)), b4, b5, b6⟩
      · obtain ⟨o, es, ep, e, d, _⟩ := hns
        rw [z, e] at b3; cases b3; rw [d] at b6; cases b6
      · rw [z, e0] at b3; cases b3; cases b6
    · obtain ⟨o, es, ep, e, d, _⟩ := hns
      rw [z, e0] at e; cases e; cases d
  have sq : SqL K H a (ns.map V.int) := by
    cases e : K.lookup a with
    | none => exact .inl (.inr ⟨_, start0_a aT e⟩)
    | some o =>
      have z := KX a o e
      rw [ha] at z
      cases z
      exact .inr ⟨_, vs.toArray, _, e, rfl, rfl, rfl, by rw [List.size_toArray]; exact nv, by simpa using rv⟩
  have e0 : Env0 P w K mg (hidT s.heap H) callerA [] s H := ⟨rfl, M, fun b o e => of_hidT e, Nat.le_of_eq (hidT_size _ _), trivial, fun b hb => absurd (show b ∈ ([] : List Addr) from hb) (by simp), ok, .of_eq hg⟩
  refine codeAny_mono (run _ H TB e0 (fun p hp => start0_tab (List.mem_map.mpr ⟨p, hp, rfl⟩)) sq) fun r s' h => ?_
  match r, h with
  | .ok (.ret x), ⟨v, H', os, bare, un, ok', rx, q⟩ =>
    cases (show v = .bl true from q)
    cases (show x = Value.bool true from rx)
    have tb : ∀ b ∈ cs.map (·.2), ∃ more : Array Value, s'.heap.get? b = some { cls := .none, data := .fields more } := fun b hb => by
      obtain ⟨more, z⟩ := un.tbls b #[] (start0_tab hb)
      exact ⟨_, ok' b _ z⟩
    have same : ∀ b o, b ∉ cs.map (·.2) → s.heap.get? b = some o → s'.heap.get? b = some o := fun b o nb e => by
      cases z : H b with
      | none => exact un.keep b o e z (by intro y; exact absurd (show b ∈ ([] : List Addr) from y) (by simp)) (by simp)
      | some x =>
        rcases start0_inv z with ⟨m, _⟩ | ⟨_, rfl, _, rfl⟩
        · exact absurd m nb
        · rw [ha] at e; cases e
          exact (ok' _ _ (un.frzs _ _ _ z)).1
    refine ⟨rfl, ⟨fun b o e => ?_, fun b o e => ?_⟩, os, bare⟩
    · by_cases hb : b ∈ cs.map (·.2)
      · obtain ⟨more, z⟩ := tb b hb
        obtain ⟨p, hp, rfl⟩ := List.mem_map.mp hb
        rw [hT p hp] at e
        cases e
        exact .inr (.inl ⟨((hC p hp).tab (hT p hp)).isCodeTable, rfl, #[], more, rfl, by rw [Array.empty_append]; exact z⟩)
      · exact .inl (same b o hb e)
    · by_cases hb : b ∈ cs.map (·.2)
      · exact let ⟨_, z⟩ := tb b hb; ⟨_, z⟩
      · exact ⟨o, same b o hb e⟩
  | .ok .next, h => exact h.elim
  | .ok .brk, h => exact h.elim
  | .ok .cont, h => exact h.elim
  | .error e, h => exact (show False from h).elim
end Pw
namespace Pw
open PySem PySem.Spec PyProof.Rows L2
theorem bo_repr : bootBuiltins "repr" = some (.builtin "repr") := by decide +kernel
theorem bo_VE : bootBuiltins "ValueError" = some (.type "ValueError") := by decide +kernel
theorem takesN {X : Cx} : L2N.Takes X (fun _ _ _ _ => False) := fun u s' x => by
  obtain ⟨_, _, _, _, _, _, _, _, _, _, _, _, _, _, _, _, z⟩ := x
  exact z.elim
/-! ### the shape of programs -/
mutual
theorem dep_depth : ∀ {n : Nat} (t : T), Dep n t → t.dat.depth ≤ n
  | _, .non, h => Nat.zero_le _
  | _, .bl _, h => Nat.zero_le _
  | _, .int _, h => Nat.zero_le _
  | _, .str _, h => Nat.zero_le _
  | _, .tup ts, h => by
    cases h with
    | tup n _ _ q =>
      simp only [T.dat, PyData.depth]
      exact Nat.succ_le_succ (deps_depth ts q)
theorem deps_depth : ∀ {n : Nat} (ts : List T), (∀ t ∈ ts, Dep n t) → PyData.depthAll (T.dats ts) ≤ n
  | _, [], _ => Nat.zero_le _
  | n, t :: ts, h => by
    simp only [T.dats, PyData.depthAll]
    exact Nat.max_le.mpr ⟨dep_depth t (h t List.mem_cons_self), deps_depth ts fun u hu => h u (List.mem_cons_of_mem _ hu)⟩
end
theorem nats_shape : ∀ ns : List Nat, (∀ n ∈ ns, n < 16) → T.slims ((ns.map Int.ofNat).map .int) ∧ T.bulks ((ns.map Int.ofNat).map .int) = ns.length
  | [], _ => ⟨trivial, rfl⟩
  | n :: ns, h => by
    obtain ⟨a, b⟩ := nats_shape ns fun m hm => h m (List.mem_cons_of_mem _ hm)
    have := h n List.mem_cons_self
    refine ⟨⟨⟨Int.natCast_nonneg n, by show (n : Int) < 16; omega⟩, a⟩, ?_⟩
    rw [List.map_cons, List.map_cons, bulks_cons, b, bulk_int, List.length_cons]
    omega
theorem nats_dep (ns : List Nat) (h : ns.length ≤ 100000) (n : Nat) : Dep (n + 2) (natsT ns) := ints_dep _ n (by rw [List.length_map]; exact h)
theorem Cm.shape {j : Nat} {c : Cm} (h : c.Good j) (hj : j ≤ 2) : c.toT.slim ∧ c.toT.bulk + 1 ≤ 250000 ∧ Dep 31 c.toT := by
  obtain ⟨a, b⟩ := nats_shape c.cells h.cells
  have hd := h.deps
  have hc := h.cnts
  have hb := h.slims.b
  have ha := h.acts
  have hab := ha.b
  have hcl := h.cl
  refine ⟨⟨slim_str (by decide), a, h.slims.s, ha.s, trivial⟩, ?_, .tup 30 _ (by simp) ?_⟩
  · show (T.tup [.str "component", natsT c.cells, .tup (Tp.toTs c.cs), c.acts]).bulk + 1 ≤ 250000
    rw [bulk_tup, bulks_cons, bulks_cons, bulks_cons, bulks_cons, bulks_nil, bulk_str, bulk_tup]
    have e1 : (natsT c.cells).bulk = c.cells.length := by unfold natsT; rw [bulk_tup]; exact b
    have : ("component" : Str).cps.size = 9 := rfl
    omega
  · simp only [List.mem_cons, List.not_mem_nil, or_false, forall_eq_or_imp, forall_eq]
    exact ⟨.str _ _, (nats_dep _ (by omega) 0).mono (by omega), (Tp.deps_ok c.cs h.fines (by omega)).mono (by omega), ha.d.mono (by omega)⟩
theorem comps_shape {j : Nat} (hj : j ≤ 2) : ∀ cs : List Cm, (∀ c ∈ cs, c.Good j) → T.slims (cs.map Cm.toT) ∧ T.bulks (cs.map Cm.toT) ≤ 250000 * cs.length ∧ ∀ t ∈ cs.map Cm.toT, Dep 31 t
  | [], _ => ⟨trivial, Nat.zero_le _, by simp⟩
  | c :: cs, h => by
    obtain ⟨a, b, d⟩ := comps_shape hj cs fun x hx => h x (List.mem_cons_of_mem _ hx)
    obtain ⟨a', b', d'⟩ := Cm.shape (h c List.mem_cons_self) hj
    refine ⟨⟨a', a⟩, ?_, fun t ht => ?_⟩
    · rw [List.map_cons, bulks_cons, List.length_cons]; omega
    · rw [List.map_cons] at ht
      rcases List.mem_cons.mp ht with rfl | ht
      · exact d'
      · exact d t ht
def Pg.rows (g : Pg) : List T := [.str "program", .tup (g.comps.map Cm.toT), natsT g.store, natsT g.parts]
theorem Pg.toT_rows (g : Pg) : g.toT = .tup g.rows := rfl
theorem Pg.shape {j : Nat} {g : Pg} (h : g.Good j) (hj : j ≤ 2) : (T.tup g.rows).slim ∧ (T.tup g.rows).bulk ≤ 1600000 ∧ (T.tup g.rows).dat.depth ≤ 40 := by
  obtain ⟨a, b, d⟩ := comps_shape hj g.comps h.comps
  obtain ⟨s1, s2⟩ := nats_shape g.store h.store
  obtain ⟨p1, p2⟩ := nats_shape g.parts h.parts
  have hm := h.many
  have hsl := h.sl
  have hpl := h.pl
  refine ⟨⟨slim_str (by decide), a, s1, p1, trivial⟩, ?_, ?_⟩
  · unfold Pg.rows
    rw [bulk_tup, bulks_cons, bulks_cons, bulks_cons, bulks_cons, bulks_nil, bulk_str, bulk_tup]
    have e1 : (natsT g.store).bulk = g.store.length := by unfold natsT; rw [bulk_tup]; exact s2
    have e2 : (natsT g.parts).bulk = g.parts.length := by unfold natsT; rw [bulk_tup]; exact p2
    have : ("program" : Str).cps.size = 7 := rfl
    omega
  · refine Nat.le_trans (dep_depth (n := 33) _ (.tup 32 _ (by simp [Pg.rows]) ?_)) (by decide)
    unfold Pg.rows
    simp only [List.mem_cons, List.not_mem_nil, or_false, forall_eq_or_imp, forall_eq]
    exact ⟨.str _ _, .tup 31 _ (by rw [List.length_map]; omega) d, (nats_dep _ (by omega) 0).mono (by omega), (nats_dep _ (by omega) 0).mono (by omega)⟩
theorem Pg.Good.fit {j : Nat} {g : Pg} (h : g.Good j) (hj : j ≤ 2) : g.Fit := by
  have := h.many
  have := h.pl
  refine ⟨fun c hc => ?_, by omega, by omega⟩
  have z := h.comps c hc
  have := z.deps
  have := z.cnts
  exact ⟨by omega, by omega⟩
/-! ### a fault's place is short -/
theorem rowsFault_mem {many np own : Nat} : ∀ {R : List Rw} {s0 : List Nat} {f : List Int × Str}, rowsFault many np own R s0 = .inl f → ∃ r ∈ R, f.1 = r.place
  | [], s0, f, h => by cases h
  | r :: R, s0, f, h => by
    have h0 : rowsFault many np own (r :: R) s0 = match reasonOf many np own r.tp r.ar s0 with
        | some s => .inl (r.place, s)
        | none => rowsFault many np own R (seenOf r.tp s0) := rfl
    rw [h0] at h
    cases hr : reasonOf many np own r.tp r.ar s0 with
    | some s => rw [hr] at h; cases h; exact ⟨r, List.mem_cons_self, rfl⟩
    | none =>
      rw [hr] at h
      obtain ⟨r', m, e⟩ := rowsFault_mem h
      exact ⟨r', List.mem_cons_of_mem _ m, e⟩
theorem compFault_len {many np own : Nat} {ts : List Tp} {f : List Int × Str} (hd : Tp.deps ts < 12) (hc : Tp.cnts ts ≤ 1700) (h : compFault many np own ts = .inl f) : f.1.length ≤ 1000 := by
  unfold compFault at h
  cases hr : rowsFault many np own (Tp.lst [] 0 [] ts) [] with
  | inl f' =>
    rw [hr] at h
    cases h
    obtain ⟨r, m, e⟩ := rowsFault_mem hr
    rw [e]
    exact (place_ok hd hc m).2
  | inr s =>
    rw [hr] at h
    dsimp only at h
    split at h
    · cases h; simp
    · cases h
theorem compsFault_len {many np : Nat} : ∀ {k : Nat} {cs : List Cm} {f : Int × List Int × Str}, (∀ c ∈ cs, c.Fit) → compsFault many np k cs = some f → f.2.1.length ≤ 1000
  | _, [], f, _, h => by cases h
  | k, c :: cs, f, hf, h => by
    have fc := hf c List.mem_cons_self
    simp only [compsFault] at h
    cases hr : compFault many np k c.cs with
    | inl f' => rw [hr] at h; cases h; exact compFault_len fc.deps fc.cnts hr
    | inr s => rw [hr] at h; exact compsFault_len (fun x hx => hf x (List.mem_cons_of_mem _ hx)) h
theorem progFault_len {g : Pg} {f : Int × List Int × Str} (hf : g.Fit) (h : progFault g = some f) : f.2.1.length ≤ 1000 := by
  unfold progFault at h
  cases hc : compsFault g.comps.length g.parts.length 0 g.comps with
  | some f' => rw [hc] at h; cases h; exact compsFault_len hf.1 hc
  | none =>
    rw [hc] at h
    dsimp only at h
    cases hp : partsFault g.comps.length (placedIn g) 0 g.parts with
    | none => rw [hp] at h; cases h
    | some f' => rw [hp] at h; cases h; simp
theorem faultT_dep {f : Int × List Int × Str} (h : f.2.1.length ≤ 1000) : Dep 16 (faultT (some f)) := by
  refine .tup 15 _ (by simp) ?_
  simp only [List.mem_cons, List.not_mem_nil, or_false, forall_eq_or_imp, forall_eq]
  exact ⟨.int _ _, (ints_dep _ 13 (by omega)), .str _ _⟩
theorem fl_c (c : Int) (vp : V) (re : Str) : (faultFs c vp re).lookup ("component" : Str) = some (.int c) := by
  unfold faultFs
  rw [L2.lookup_put, if_neg (by decide), L2.lookup_put, if_neg (by decide), L2.lookup_put, if_pos rfl]
theorem fl_p (c : Int) (vp : V) (re : Str) : (faultFs c vp re).lookup ("place" : Str) = some vp := by
  unfold faultFs
  rw [L2.lookup_put, if_neg (by decide), L2.lookup_put, if_pos rfl]
theorem fl_r (c : Int) (vp : V) (re : Str) : (faultFs c vp re).lookup ("reason" : Str) = some (.str re) := by
  unfold faultFs
  rw [L2.lookup_put, if_pos rfl]
end Pw
namespace Pw
open PySem PySem.Spec PyProof.Rows L2
def topS (i : Nat) : Stmt := PySem.Challenge.pw_pagewake_k01_the_first_fault_of_a_progra.main.body.getD i (.Pass ⟨0, 0, 0, 0⟩)
abbrev sCell : Stmt := topS 16
abbrev sDigits : Stmt := topS 17
abbrev sDraw : Stmt := topS 18
theorem scCell : FnScope ["script", "k"] ["script", "k"] (defScope sCell) := ⟨rfl, rfl, rfl, by decide +kernel, rfl, by decide +kernel, by decide +kernel⟩
theorem scDigits : FnScope ["script", "first", "last", "digits", "k", "cell", "turn", "seed"] ["script", "first", "last"] (defScope sDigits) := ⟨rfl, rfl, rfl, by decide +kernel, rfl, by decide +kernel, by decide +kernel⟩
theorem scDraw : FnScope ["box", "many", "at"] ["box", "many"] (defScope sDraw) := ⟨rfl, rfl, rfl, by decide +kernel, rfl, by decide +kernel, by decide +kernel⟩
section
variable {P : Program} {w : World} {K : PySem.W.Frag} {mg : Str → Option Value} {base : Heap}
theorem ok_cell {f : Addr} {fd : FuncData} {k : Nat} (F : Fun K "_law_cell" "_law_cell" sCell f fd) (ml : mg "len" = none) : FnOk P w K mg base CX0 (k + 1) f fd ["script", "k"] (spCell' K) := by
  refine F.ok scCell (fun vs H Q E h => ?_) (fun cdv A outer s H vs Q E hr h => ?_)
  · obtain ⟨a, xs, i, rfl, _⟩ := h
    rfl
  obtain ⟨a, ns, i, rfl, hS, q⟩ := h
  refine ⟨_, pss_cons (ps_if (pt_cmpR op_lt (pv 1) (pe_callB call_len_seq (by rfl) ml PySem.boot_len (pa_cons (pv 0) pa_nil)) (nomark _)) (pss_one (ps_ret (pe_ix ix_list (pv 0) (pv 1) (fun _ _ => rfl)))) pss_nil)
    (pss_one (ps_ret pe_int)), ?_⟩
  refine ⟨_, rfl, _, rfl, a, _, rfl, .inl hS, _, _, rfl, rfl, _, rfl, ite2 (fun c => ?_) (fun c => ?_)⟩
  · have c' : (i : Int) < (((ns.map V.int).length : Nat) : Int) := of_decide_eq_true c
    have c2 : i < (ns.map V.int).length := by omega
    rw [List.length_map] at c2
    have g : (ns.map V.int)[i]? = some (.int ns[i]) := by rw [List.getElem?_map, List.getElem?_eq_getElem c2]; rfl
    exact ⟨_, rfl, _, rfl, a, _, _, _, rfl, rfl, hS, atI_nat g, q _⟩
  · exact q 0
theorem ok_draw {f : Addr} {fd : FuncData} {k : Nat} (F : Fun K "_law_draw" "_law_draw" sDraw f fd) (ml : mg "len" = none) (mi : mg "int" = none) : FnOk P w K mg base CX0 (k + 1) f fd ["box", "many"] spDraw := by
  refine F.ok scDraw (fun vs H Q E h => ?_) (fun cdv A outer s H vs Q E hr h => ?_)
  · obtain ⟨b, d, m, rest, rfl, _⟩ := h
    rfl
  obtain ⟨b, d, m, rest, rfl, hm, ⟨ds, at', hb, hd⟩, q⟩ := h
  have nd := scDraw.nd
  have i0 : ∀ (xs : List V) (x : V), atI (x :: xs) 0 = some x := fun xs x => atI_nat (j := 0) rfl
  have i1 : ∀ (xs : List V) (x y : V), atI (x :: y :: xs) 1 = some y := fun xs x y => atI_nat (j := 1) rfl
  refine ⟨_, pss_cons (ps_set (i := 2) nd rfl (.inl rfl) (pe_ix ix_list (pv 0) pe_int (fun _ _ => rfl)))
    (pss_cons (ps_asg (pe_op op_add (pv 2) pe_int) (pg_sub (pv 0) pe_int set_list))
    (pss_cons (ps_if (pt_cmpR op_lt (pv 2) (pe_callB call_len_seq (by rfl) ml PySem.boot_len (pa_cons (pe_ix ix_list (pv 0) pe_int (fun _ _ => rfl)) pa_nil)) (nomark _))
        (pss_one (ps_ret (pe_op op_mod (pe_callTy call_int1 (by rfl) mi bo_int (pa_cons (pe_ix ix_list (pe_ix ix_list (pv 0) pe_int (fun _ _ => rfl)) (pv 2) (fun _ _ => rfl)) pa_nil)) (pv 1)))) pss_nil)
      (pss_one (ps_ret pe_int)))), ?_⟩
  refine ⟨_, rfl, b, _, _, _, rfl, rfl, SqL.of hb, i1 _ _ _, ?_⟩
  refine ⟨_, rfl, _, _, rfl, rfl, _, rfl, b, _, 1, 1, rfl, rfl, hb, ?_, ?_⟩
  · show (if (0 : Int) ≤ 1 then (if (1 : Int) < ((rest.length + 1 + 1 : Nat) : Int) then some (1 : Int).toNat else none) else _) = some 1
    rw [if_pos (by decide), if_pos (by omega)]
    rfl
  have dne : d ≠ b := by
    intro e
    rw [e, hb] at hd
    cases ds with
    | nil => cases hd
    | cons x r => cases hd
  have hb' : upd H b (.lst (.ref d :: .int ((at' : Int) + 1) :: rest)) b = some (.lst (.ref d :: .int ((at' : Int) + 1) :: rest)) := upd_same
  have hd' : upd H b (.lst (.ref d :: .int ((at' : Int) + 1) :: rest)) d = some (.lst (ds.map V.int)) := by rw [upd_ne dne]; exact hd
  have o1 : Oth [b] H (upd H b (.lst (.ref d :: .int ((at' : Int) + 1) :: rest))) := Oth.put (by simp) hb
  have bx : Box (upd H b (.lst (.ref d :: .int ((at' : Int) + 1) :: rest))) b d rest := ⟨ds, at' + 1, by rw [hb']; rfl, hd'⟩
  refine ⟨_, rfl, _, rfl, b, _, _, _, rfl, rfl, SqL.of hb', i0 _ _, d, _, rfl, .inl (SqL.of hd'), _, _, rfl, rfl, _, rfl, ite2 (fun c => ?_) (fun c => ?_)⟩
  · have c' : (at' : Int) < (((ds.map V.int).length : Nat) : Int) := of_decide_eq_true c
    have c2 : at' < (ds.map V.int).length := by omega
    rw [List.length_map] at c2
    have g : (ds.map V.int)[at']? = some (.int ds[at']) := by rw [List.getElem?_map, List.getElem?_eq_getElem c2]; rfl
    refine ⟨_, rfl, b, _, _, _, rfl, rfl, SqL.of hb', i0 _ _, _, rfl, d, _, _, _, rfl, rfl, SqL.of hd', atI_nat g, .inl ⟨_, rfl, _, rfl, _, _, rfl, rfl, hm, ?_⟩⟩
    exact q _ _ (Int.emod_nonneg _ (by omega)) (Int.emod_lt_of_pos _ hm) bx o1
  · exact q 0 _ (by omega) hm bx o1
theorem ok_digits {f g : Addr} {fd gd : FuncData} {k : Nat} (F : Fun K "_law_digits" "_law_digits" sDigits f fd) (GC : FnOk P w K mg base CX0 k g gd ["script", "k"] (spCell' K)) (bC : Binds K gd ["script", "k"] []) (kC : PySem.W.keepIn K (.ref g) = true) (mC : mg "_law_cell" = some (.ref g))
    (m_range : mg "range" = none) (m_int : mg "int" = none) : FnOk P w K mg base CX0 (k + 1) f fd ["script", "first", "last"] (spDigits K) := by
  refine F.ok scDigits (fun vs H Q E h => ?_) (fun cdv A outer s H vs Q E hr h => ?_)
  · obtain ⟨a, ns, i, j, rfl, _⟩ := h
    rfl
  obtain ⟨a, ns, i0, j0, rfl, hS, hi0, hj0, q⟩ := h
  have nd := scDigits.nd
  refine ⟨_, (pss_cons (ps_set (i := 3) nd rfl (.inl rfl) (pe_lst pa_nil))
  (pss_cons (ps_for PassesOwn.never rfl (pi_range2 (by rfl) m_range (pa_cons (pv 1) (pa_cons (pv 2) pa_nil))) (pg_name (i := 4) nd rfl (.inl rfl))
  (pss_cons (ps_set (i := 5) nd rfl (.inl rfl) (pe_call GC hr rfl mC kC bC .nil pass0 (pa_cons (pv 0) (pa_cons (pv 4) pa_nil))))
  (pss_cut (ps_if (pt_cmpR op_lt (pv 5) pe_int (nomark _))
  (pss_one (ps_set (i := 5) nd rfl (.inl rfl) (pe_op op_sub pe_int (pe_op op_mul pe_int (pv 5)))))
  pss_nil)
  (pss_one (ps_if (pt_cmpR op_ge (pv 5) (pe_op op_pow pe_int pe_int) (nomark _))
  (pss_one (ps_for PassesOwn.never rfl (pi_range1 (by rfl) m_range (pa_cons pe_int pa_nil)) (pg_name (i := 6) nd rfl (.inl rfl))
  (pss_one (ps_if (pt_cmpR op_gt (pv 5) pe_int (nomark _))
  (pss_cons (ps_expr (pe_bm PySem.F.plainAttrs_list PySem.F.slot_list_append PySem.F.type_list_append mt_append (pv 3) (pa_cons (pe_op op_mod (pe_callTy call_int1 (by rfl) m_int bo_int (pa_cons (pv 5) pa_nil)) pe_int) pa_nil)))
  (pss_one (ps_set (i := 5) nd rfl (.inl rfl) (pe_op op_fdiv (pv 5) pe_int))))
  pss_nil))))
  (pss_cons (ps_set (i := 7) nd rfl (.inl rfl) (pe_op op_mod (pe_callTy call_int1 (by rfl) m_int bo_int (pa_cons (pe_op op_add (pe_op op_add (pe_op op_mul (pv 5) pe_int) (pe_op op_mul (pv 4) pe_int)) pe_int) pa_nil)) pe_int))
  (pss_one (ps_for PassesOwn.never rfl (pi_range1 (by rfl) m_range (pa_cons pe_int pa_nil)) (pg_name (i := 6) nd rfl (.inl rfl))
  (pss_cons (ps_set (i := 7) nd rfl (.inl rfl) (pe_op op_mod (pe_callTy call_int1 (by rfl) m_int bo_int (pa_cons (pe_op op_add (pe_op op_add (pe_op op_mul (pv 7) pe_int) (pe_op op_mul pe_int (pv 6))) pe_int) pa_nil)) pe_int))
  (pss_one (ps_expr (pe_bm PySem.F.plainAttrs_list PySem.F.slot_list_append PySem.F.type_list_append mt_append (pv 3) (pa_cons (pe_op op_mod (pe_callTy call_int1 (by rfl) m_int bo_int (pa_cons (pe_op op_fdiv (pv 7) pe_int) pa_nil)) pe_int) pa_nil)))))))))))))
  (pss_one (ps_ret (pv 3))))), ?_⟩
  refine ⟨Nat.zero_le _, fun p hp => ?_⟩
  refine ⟨_, rfl, _, rfl, (i0 : Int), (j0 : Int), rfl, ⟨by omega, by omega, by omega, by omega⟩, for_range (lo := (i0 : Int)) (n := ((j0 : Int) - (i0 : Int)).toNat)
    (fun i σ H1 => ∃ (x4 x5 x6 x7 : Option V) (ds : List Int), σ = [some (.ref a), some (.int (i0 : Int)), some (.int (j0 : Int)), some (.ref p), x4, x5, x6, x7] ∧ Oth [] H H1 ∧ H1 p = some (.lst (ds.map V.int)) ∧ ds.length ≤ 60 * i)
    ⟨none, none, none, none, [], rfl, Oth.new hp, upd_same, Nat.zero_le _⟩ (fun i σ H1 hi hW => ?_) (fun σ H1 hW => ?_)⟩
  · obtain ⟨x4, x5, x6, x7, ds, rfl, o1, hp1, hds⟩ := hW
    have hi2 : i < 100 := by omega
    refine ⟨_, rfl, _, rfl, a, ns, i0 + i, rfl, o1.sqL (by simp) hS, fun x => ?_⟩
    refine ⟨fun σ2 H2 => H2 = H1 ∧ ∃ c : Int, 0 ≤ c ∧ σ2 = [some (.ref a), some (.int (i0 : Int)), some (.int (j0 : Int)), some (.ref p), some (.int ((i0 : Int) + (i : Int))), some (.int c), x6, x7], ?_, ?_⟩
    · refine ⟨_, rfl, _, _, rfl, rfl, _, rfl, ite2 (fun c => ?_) (fun c => ?_)⟩
      · have c' : x < 0 := of_decide_eq_true c
        exact ⟨_, rfl, _, _, rfl, rfl, .inl ⟨by decide, by decide⟩, _, _, rfl, rfl, rfl, _, by omega, rfl⟩
      · have c' : ¬ x < 0 := of_decide_eq_false (Bool.eq_false_iff.mpr c)
        exact ⟨rfl, x, by omega, rfl⟩
    · rintro σ2 H2 ⟨rfl, c, hc, rfl⟩
      refine ⟨_, rfl, _, _, rfl, rfl, ⟨by decide, by decide, by decide⟩, _, _, rfl, rfl, _, rfl, ite2 (fun y => ?_) (fun y => ?_)⟩
      · refine ⟨60, rfl, by decide, by decide, for_range (lo := 0) (n := 60)
          (fun j σ H3 => ∃ (x6 : Option V) (c : Int) (ds : List Int), σ = [some (.ref a), some (.int (i0 : Int)), some (.int (j0 : Int)), some (.ref p), some (.int ((i0 : Int) + (i : Int))), some (.int c), x6, x7] ∧ Oth [] H H3 ∧ H3 p = some (.lst (ds.map V.int)) ∧ ds.length ≤ 60 * i + j)
          ⟨x6, c, ds, rfl, o1, hp1, by omega⟩ (fun j σ H3 hj hW => ?_) (fun σ H3 hW => ?_)⟩
        · obtain ⟨x6, c, ds, rfl, o3, hp3, hd3⟩ := hW
          refine ⟨_, rfl, _, _, rfl, rfl, _, rfl, ite2 (fun y => ?_) (fun y => ?_)⟩
          · have hs : (ds.map V.int).length < sizeLine := by rw [List.length_map]; exact Nat.lt_of_le_of_lt (by omega : ds.length ≤ 100000) (by decide)
            refine ⟨_, rfl, .inl ⟨rfl, _, SqL.of hp3⟩, _, rfl, .inl ⟨_, rfl, _, _, rfl, rfl, (by show (0 : Int) < 1000; decide), p, _, _, rfl, rfl, hp3, hs, ?_⟩⟩
            refine ⟨_, rfl, _, _, rfl, rfl, ⟨by decide, by decide⟩, _, _, ds ++ [c % 1000], rfl, (((o3.mono (S' := [p]) (by simp)).trans (Oth.put (by simp) hp3)).drop hp), ?_, ?_⟩
            · rw [upd_same, List.map_append]; rfl
            · rw [List.length_append]; simp; omega
          · exact ⟨_, c, ds, rfl, o3, hp3, by omega⟩
        · obtain ⟨x6, c, ds, rfl, o3, hp3, hd3⟩ := hW
          exact ⟨_, _, _, _, ds, rfl, o3, hp3, by omega⟩
      · have y' : c < 10 ^ 18 := Int.not_le.mp fun z => y (decide_eq_true z)
        have y2 : c < 1000000000000000000 := Int.lt_of_lt_of_le y' (by decide)
        refine ⟨_, rfl, _, _, rfl, rfl, .inl ⟨by omega, by omega⟩, _, rfl, _, _, rfl, rfl, .inl ⟨by omega, by omega⟩, _, _, rfl, rfl, _, _, rfl, rfl, .inl ⟨_, rfl, _, _, rfl, rfl, (by show (0 : Int) < 2147483647; decide), ?_⟩⟩
        have s0 : 0 ≤ (c * 48271 + ((i0 : Int) + (i : Int)) * 69621 + 11) % 2147483647 := Int.emod_nonneg _ (by decide)
        have s1 : (c * 48271 + ((i0 : Int) + (i : Int)) * 69621 + 11) % 2147483647 < 2147483647 := Int.emod_lt_of_pos _ (by decide)
        refine ⟨12, rfl, by decide, by decide, for_range (lo := 0) (n := 12)
          (fun j σ H3 => ∃ (x6 : Option V) (s : Int) (ds : List Int), σ = [some (.ref a), some (.int (i0 : Int)), some (.int (j0 : Int)), some (.ref p), some (.int ((i0 : Int) + (i : Int))), some (.int c), x6, some (.int s)] ∧ 0 ≤ s ∧ s < 2147483647 ∧ Oth [] H H3 ∧ H3 p = some (.lst (ds.map V.int)) ∧ ds.length ≤ 60 * i + j)
          ⟨x6, _, ds, rfl, s0, s1, o1, hp1, by omega⟩ (fun j σ H3 hj hW => ?_) (fun σ H3 hW => ?_)⟩
        · obtain ⟨x6, s', ds, rfl, t0, t1, o3, hp3, hd3⟩ := hW
          have hs : (ds.map V.int).length < sizeLine := by rw [List.length_map]; exact Nat.lt_of_le_of_lt (by omega : ds.length ≤ 100000) (by decide)
          refine ⟨_, rfl, _, _, rfl, rfl, .inl ⟨by omega, by omega⟩, _, rfl, _, _, rfl, rfl, .inl ⟨by decide, by decide⟩, _, _, rfl, rfl, _, _, rfl, rfl, .inl ⟨_, rfl, _, _, rfl, rfl, (by show (0 : Int) < 2147483647; decide), ?_⟩⟩
          refine ⟨_, rfl, .inl ⟨rfl, _, SqL.of hp3⟩, _, rfl, _, _, rfl, rfl, ⟨by decide, by decide⟩, .inl ⟨_, rfl, _, _, rfl, rfl, (by show (0 : Int) < 1000; decide), p, _, _, rfl, rfl, hp3, hs, ?_⟩⟩
          refine ⟨_, _, ds ++ [((s' * 16807 + 7 * (0 + (j : Int)) + 1) % 2147483647 / 997) % 1000], rfl, Int.emod_nonneg _ (by decide), Int.emod_lt_of_pos _ (by decide), (((o3.mono (S' := [p]) (by simp)).trans (Oth.put (by simp) hp3)).drop hp), ?_, ?_⟩
          · rw [upd_same, List.map_append]; rfl
          · rw [List.length_append]; simp; omega
        · obtain ⟨x6, s', ds, rfl, t0, t1, o3, hp3, hd3⟩ := hW
          exact ⟨_, _, _, _, ds, rfl, o3, hp3, by omega⟩
  · obtain ⟨x4, x5, x6, x7, ds, rfl, o1, hp1, hds⟩ := hW
    exact ⟨_, rfl, q p H1 ds hp o1 hp1⟩
end
end Pw
namespace Pw
open PySem PySem.Spec PyProof.Rows L2
abbrev sSame : Stmt := topS 19
theorem scSame : FnScope ["actual", "expected", "k"] ["actual", "expected"] (defScope sSame) := ⟨rfl, rfl, rfl, by decide +kernel, rfl, by decide +kernel, by decide +kernel⟩
section
variable {P : Program} {w : World} {K : PySem.W.Frag} {mg : Str → Option Value} {base : Heap}
theorem ok_same {f : Addr} {fd : FuncData} {k n : Nat} (F : Fun K "_law_same" "_law_same" sSame f fd)
    (GS : FnOk P w K mg base CX0 k f fd ["actual", "expected"] (spSame n)) (bS : Binds K fd ["actual", "expected"] []) (kS : PySem.W.keepIn K (.ref f) = true) (mS : mg "_law_same" = some (.ref f))
    (m_isinstance : mg "isinstance" = none) (m_tuple : mg "tuple" = none) (m_len : mg "len" = none) (m_range : mg "range" = none) (m_bool : mg "bool" = none) (m_int : mg "int" = none) (m_str : mg "str" = none) :
    FnOk P w K mg base CX0 (k + 1) f fd ["actual", "expected"] (spSame (n + 1)) := by
  refine F.ok scSame (fun vs H Q E h => ?_) (fun cdv A outer s H vs Q E hr h => ?_)
  · obtain ⟨t, v, u, rfl, _⟩ := h
    rfl
  obtain ⟨t, v, u, rfl, hv, hu, hd, q⟩ := h
  have nd := scSame.nd
  refine ⟨_, (pss_cons (ps_if (pt_val (pe_callB call_isi (by rfl) m_isinstance bo_isi (pa_cons (pv 1) (pa_cons (pe_bltn (v := .ty "tuple") (by rfl) m_tuple bo_tuple rfl) pa_nil))))
  (pss_cons (ps_if (PW.pt (pw_or (pt_not (pt_val (pe_callB call_isi (by rfl) m_isinstance bo_isi (pa_cons (pv 0) (pa_cons (pe_bltn (v := .ty "tuple") (by rfl) m_tuple bo_tuple rfl) pa_nil))))) (pw_or1 (pt_cmpR op_ne (pe_callB call_len_seq (by rfl) m_len PySem.boot_len (pa_cons (pv 0) pa_nil)) (pe_callB call_len_seq (by rfl) m_len PySem.boot_len (pa_cons (pv 1) pa_nil)) (nomark _)))))
  (pss_one (ps_ret pe_bl))
  pss_nil)
  (pss_cons (ps_for PassesOwn.never rfl (pi_range1 (by rfl) m_range (pa_cons (pe_callB call_len_seq (by rfl) m_len PySem.boot_len (pa_cons (pv 1) pa_nil)) pa_nil)) (pg_name (i := 2) nd rfl (.inl rfl))
  (pss_one (ps_if (pt_not (pt_val (pe_call GS hr rfl mS kS bS .nil pass0 (pa_cons (pe_ix ix_tup (pv 0) (pv 2) (fun _ _ => rfl)) (pa_cons (pe_ix ix_tup (pv 1) (pv 2) (fun _ _ => rfl)) pa_nil)))))
  (pss_one (ps_ret pe_bl))
  pss_nil)))
  (pss_one (ps_ret pe_bl))))
  pss_nil)
  (pss_cons (ps_if (pt_cmpR op_isN (pv 1) pe_non (nomark _))
  (pss_one (ps_ret (pe_cmpR op_isN (pv 0) pe_non (nomark _))))
  pss_nil)
  (pss_cons (ps_if (pt_val (pe_callB call_isi (by rfl) m_isinstance bo_isi (pa_cons (pv 1) (pa_cons (pe_bltn (v := .ty "bool") (by rfl) m_bool bo_bool rfl) pa_nil))))
  (pss_one (ps_ret (pe_and (pe_callB call_isi (by rfl) m_isinstance bo_isi (pa_cons (pv 0) (pa_cons (pe_bltn (v := .ty "bool") (by rfl) m_bool bo_bool rfl) pa_nil))) (pe_one (pe_cmpR op_eq (pv 0) (pv 1) (nomark _))))))
  pss_nil)
  (pss_cons (ps_if (pt_val (pe_callB call_isi (by rfl) m_isinstance bo_isi (pa_cons (pv 1) (pa_cons (pe_bltn (v := .ty "int") (by rfl) m_int bo_int rfl) pa_nil))))
  (pss_one (ps_ret (pe_and (pe_callB call_isi (by rfl) m_isinstance bo_isi (pa_cons (pv 0) (pa_cons (pe_bltn (v := .ty "int") (by rfl) m_int bo_int rfl) pa_nil))) (pe_and (pe_not (pe_callB call_isi (by rfl) m_isinstance bo_isi (pa_cons (pv 0) (pa_cons (pe_bltn (v := .ty "bool") (by rfl) m_bool bo_bool rfl) pa_nil)))) (pe_one (pe_cmpR op_eq (pv 0) (pv 1) (nomark _)))))))
  pss_nil)
  (pss_one (ps_ret (pe_and (pe_callB call_isi (by rfl) m_isinstance bo_isi (pa_cons (pv 0) (pa_cons (pe_bltn (v := .ty "str") (by rfl) m_str bo_str rfl) pa_nil))) (pe_one (pe_cmpR op_eq (pv 0) (pv 1) (nomark _)))))))))), ?_⟩
  cases hd with
  | non _ =>
    obtain rfl := hv.of_non
    obtain rfl := hu.of_non
    refine ⟨_, rfl, _, _, _, _, false, rfl, .ty "tuple", hu.ty, kit_ty kb_NoneType_tuple, _, rfl, iteF ?_⟩
    refine ⟨_, rfl, rfl, _, rfl, iteT ⟨_, rfl, rfl, ?_⟩⟩
    exact q
  | int _ i =>
    obtain rfl := hv.of_int
    obtain rfl := hu.of_int
    refine ⟨_, rfl, _, _, _, _, false, rfl, .ty "tuple", hu.ty, kit_ty kb_int_tuple, _, rfl, iteF ?_⟩
    refine ⟨_, rfl, rfl, _, rfl, iteF ?_⟩
    refine ⟨_, rfl, _, _, _, _, false, rfl, .ty "bool", hu.ty, kit_ty kb_int_bool, _, rfl, iteF ?_⟩
    refine ⟨_, rfl, _, _, _, _, true, rfl, .ty "int", hu.ty, kit_ty kb_int_int, _, rfl, iteT ?_⟩
    refine ⟨_, rfl, _, _, _, _, true, rfl, .ty "int", hu.ty, kit_ty kb_int_int, _, rfl, iteT ?_⟩
    refine ⟨_, rfl, _, _, _, _, false, rfl, .ty "bool", hu.ty, kit_ty kb_int_bool, _, rfl, _, rfl, iteT ?_⟩
    refine ⟨_, rfl, _, rfl, rfl, ?_⟩
    rw [decide_eq_true rfl]
    exact q
  | str _ x =>
    obtain rfl := hv.of_str
    obtain rfl := hu.of_str
    refine ⟨_, rfl, _, _, _, _, false, rfl, .ty "tuple", hu.ty, kit_ty kb_str_tuple, _, rfl, iteF ?_⟩
    refine ⟨_, rfl, rfl, _, rfl, iteF ?_⟩
    refine ⟨_, rfl, _, _, _, _, false, rfl, .ty "bool", hu.ty, kit_ty kb_str_bool, _, rfl, iteF ?_⟩
    refine ⟨_, rfl, _, _, _, _, false, rfl, .ty "int", hu.ty, kit_ty kb_str_int, _, rfl, iteF ?_⟩
    refine ⟨_, rfl, _, _, _, _, true, rfl, .ty "str", hu.ty, kit_ty kb_str_str, _, rfl, iteT ?_⟩
    refine ⟨_, rfl, _, rfl, rfl, ?_⟩
    rw [decide_eq_true rfl]
    exact q
  | tup _ ts hz hts =>
    obtain ⟨a, xs, rfl, ea, pa⟩ := hv.inv
    obtain ⟨b, ys, rfl, eb, pb⟩ := hu.inv
    have la := (paired_get pa).1
    have lb := (paired_get pb).1
    refine ⟨_, rfl, _, _, _, _, true, rfl, .ty "tuple", hu.ty, kit_ty kb_tuple_tuple, _, rfl, iteT ?_⟩
    refine ⟨_, rfl, _, _, _, _, true, rfl, .ty "tuple", hv.ty, kit_ty kb_tuple_tuple, _, rfl, iteF ?_⟩
    refine ⟨_, rfl, a, _, rfl, .inr (SqT.of ea), _, rfl, b, _, rfl, .inr (SqT.of eb), rfl, _, rfl, ?_⟩
    rw [la, lb, decide_eq_true rfl]
    refine iteF ?_
    refine ⟨_, rfl, b, _, rfl, .inr (SqT.of eb), _, rfl, by omega, by omega, for_range (lo := 0) (n := ((ys.length : Nat) : Int).toNat)
      (fun i σ H1 => H1 = H ∧ ∃ x2 : Option V, σ = [some (.ref a), some (.ref b), x2]) ⟨rfl, none, rfl⟩ (fun i σ H1 hi hW => ?_) (fun σ H1 hW => ?_)⟩
    · obtain ⟨rfl, x2, rfl⟩ := hW
      have hi1 : i < ts.length := by omega
      have ga : xs[i]? = some xs[i] := List.getElem?_eq_getElem (by omega)
      have gb : ys[i]? = some ys[i] := List.getElem?_eq_getElem (by omega)
      have gt : ts[i]? = some ts[i] := List.getElem?_eq_getElem hi1
      refine ⟨_, rfl, _, rfl, a, _, (i : Int), _, rfl, by rw [Int.zero_add], SqT.of ea, atI_nat ga, _, rfl, _, rfl, b, _, (i : Int), _, rfl, by rw [Int.zero_add], SqT.of eb, atI_nat gb, ?_⟩
      refine ⟨ts[i], _, _, rfl, (paired_get pa).2 i _ _ gt ga, (paired_get pb).2 i _ _ gt gb, hts _ (List.getElem_mem hi1), _, rfl, ?_⟩
      exact iteF ⟨rfl, _, rfl⟩
    · obtain ⟨rfl, x2, rfl⟩ := hW
      exact q
theorem ok_sameH {f : Addr} {fd : FuncData} {k n : Nat} (F : Fun K "_law_same" "_law_same" sSame f fd)
    (GS : L2H.FnH P w K mg base CX0 k f fd ["actual", "expected"] (spSame n)) (bS : Binds K fd ["actual", "expected"] []) (kS : PySem.W.keepIn K (.ref f) = true) (mS : mg "_law_same" = some (.ref f))
    (m_isinstance : mg "isinstance" = none) (m_tuple : mg "tuple" = none) (m_len : mg "len" = none) (m_range : mg "range" = none) (m_bool : mg "bool" = none) (m_int : mg "int" = none) (m_str : mg "str" = none) :
    L2H.FnH P w K mg base CX0 (k + 1) f fd ["actual", "expected"] (spSame (n + 1)) := by
  obtain ⟨oc, od, kV, doc, pm, an, cdv, ct, osl, rfl, lk, hcd⟩ := F.ex
  refine L2H.fn_ofH lk hcd scSame (fun vs H Q E h => ?_) (fun A outer s H vs Q E p hot hr h => ?_)
  · obtain ⟨t, v, u, rfl, _⟩ := h
    rfl
  obtain ⟨t, v, u, rfl, hv, hu, hd, q⟩ := h
  have nd := scSame.nd
  have hotc : L2H.HotC (L2H.cxH CX0 P w K mg base ["actual", "expected", "k"] "_law_same" (defScope sSame) f cdv A outer s H E p) := ⟨p, hot, List.mem_singleton.mpr rfl⟩
  refine ⟨_, (pss_cons (ps_if (pt_val (pe_callB call_isi (by rfl) m_isinstance bo_isi (pa_cons (pv 1) (pa_cons (pe_bltn (v := .ty "tuple") (by rfl) m_tuple bo_tuple rfl) pa_nil))))
  (pss_cons (ps_if (PW.pt (pw_or (pt_not (pt_val (pe_callB call_isi (by rfl) m_isinstance bo_isi (pa_cons (pv 0) (pa_cons (pe_bltn (v := .ty "tuple") (by rfl) m_tuple bo_tuple rfl) pa_nil))))) (pw_or1 (pt_cmpR op_ne (pe_callB call_len_seq (by rfl) m_len PySem.boot_len (pa_cons (pv 0) pa_nil)) (pe_callB call_len_seq (by rfl) m_len PySem.boot_len (pa_cons (pv 1) pa_nil)) (nomark _)))))
  (pss_one (ps_ret pe_bl))
  pss_nil)
  (pss_cons (L2H.ps_forH (passes_of rfl) hotc (L2H.pi_range1H (by rfl) m_range (pa_cons (pe_callB call_len_seq (by rfl) m_len PySem.boot_len (pa_cons (pv 1) pa_nil)) pa_nil)) (pg_name (i := 2) nd rfl (.inl rfl))
  (pss_one (ps_if (pt_not (pt_val (L2H.pe_callH (E := fun _ => E0) GS hr hotc rfl mS kS bS (fun _ _ _ _ _ _ _ h => h.elim) (pa_cons (pe_ix ix_tup (pv 0) (pv 2) (fun _ _ => rfl)) (pa_cons (pe_ix ix_tup (pv 1) (pv 2) (fun _ _ => rfl)) pa_nil)))))
  (pss_one (ps_ret pe_bl))
  pss_nil)))
  (pss_one (ps_ret pe_bl))))
  pss_nil)
  (pss_cons (ps_if (pt_cmpR op_isN (pv 1) pe_non (nomark _))
  (pss_one (ps_ret (pe_cmpR op_isN (pv 0) pe_non (nomark _))))
  pss_nil)
  (pss_cons (ps_if (pt_val (pe_callB call_isi (by rfl) m_isinstance bo_isi (pa_cons (pv 1) (pa_cons (pe_bltn (v := .ty "bool") (by rfl) m_bool bo_bool rfl) pa_nil))))
  (pss_one (ps_ret (pe_and (pe_callB call_isi (by rfl) m_isinstance bo_isi (pa_cons (pv 0) (pa_cons (pe_bltn (v := .ty "bool") (by rfl) m_bool bo_bool rfl) pa_nil))) (pe_one (pe_cmpR op_eq (pv 0) (pv 1) (nomark _))))))
  pss_nil)
  (pss_cons (ps_if (pt_val (pe_callB call_isi (by rfl) m_isinstance bo_isi (pa_cons (pv 1) (pa_cons (pe_bltn (v := .ty "int") (by rfl) m_int bo_int rfl) pa_nil))))
  (pss_one (ps_ret (pe_and (pe_callB call_isi (by rfl) m_isinstance bo_isi (pa_cons (pv 0) (pa_cons (pe_bltn (v := .ty "int") (by rfl) m_int bo_int rfl) pa_nil))) (pe_and (pe_not (pe_callB call_isi (by rfl) m_isinstance bo_isi (pa_cons (pv 0) (pa_cons (pe_bltn (v := .ty "bool") (by rfl) m_bool bo_bool rfl) pa_nil)))) (pe_one (pe_cmpR op_eq (pv 0) (pv 1) (nomark _)))))))
  pss_nil)
  (pss_one (ps_ret (pe_and (pe_callB call_isi (by rfl) m_isinstance bo_isi (pa_cons (pv 0) (pa_cons (pe_bltn (v := .ty "str") (by rfl) m_str bo_str rfl) pa_nil))) (pe_one (pe_cmpR op_eq (pv 0) (pv 1) (nomark _)))))))))), ?_⟩
  cases hd with
  | non _ =>
    obtain rfl := hv.of_non
    obtain rfl := hu.of_non
    refine ⟨_, rfl, _, _, _, _, false, rfl, .ty "tuple", hu.ty, kit_ty kb_NoneType_tuple, _, rfl, iteF ?_⟩
    refine ⟨_, rfl, rfl, _, rfl, iteT ⟨_, rfl, rfl, ?_⟩⟩
    exact q
  | int _ i =>
    obtain rfl := hv.of_int
    obtain rfl := hu.of_int
    refine ⟨_, rfl, _, _, _, _, false, rfl, .ty "tuple", hu.ty, kit_ty kb_int_tuple, _, rfl, iteF ?_⟩
    refine ⟨_, rfl, rfl, _, rfl, iteF ?_⟩
    refine ⟨_, rfl, _, _, _, _, false, rfl, .ty "bool", hu.ty, kit_ty kb_int_bool, _, rfl, iteF ?_⟩
    refine ⟨_, rfl, _, _, _, _, true, rfl, .ty "int", hu.ty, kit_ty kb_int_int, _, rfl, iteT ?_⟩
    refine ⟨_, rfl, _, _, _, _, true, rfl, .ty "int", hu.ty, kit_ty kb_int_int, _, rfl, iteT ?_⟩
    refine ⟨_, rfl, _, _, _, _, false, rfl, .ty "bool", hu.ty, kit_ty kb_int_bool, _, rfl, _, rfl, iteT ?_⟩
    refine ⟨_, rfl, _, rfl, rfl, ?_⟩
    rw [decide_eq_true rfl]
    exact q
  | str _ x =>
    obtain rfl := hv.of_str
    obtain rfl := hu.of_str
    refine ⟨_, rfl, _, _, _, _, false, rfl, .ty "tuple", hu.ty, kit_ty kb_str_tuple, _, rfl, iteF ?_⟩
    refine ⟨_, rfl, rfl, _, rfl, iteF ?_⟩
    refine ⟨_, rfl, _, _, _, _, false, rfl, .ty "bool", hu.ty, kit_ty kb_str_bool, _, rfl, iteF ?_⟩
    refine ⟨_, rfl, _, _, _, _, false, rfl, .ty "int", hu.ty, kit_ty kb_str_int, _, rfl, iteF ?_⟩
    refine ⟨_, rfl, _, _, _, _, true, rfl, .ty "str", hu.ty, kit_ty kb_str_str, _, rfl, iteT ?_⟩
    refine ⟨_, rfl, _, rfl, rfl, ?_⟩
    rw [decide_eq_true rfl]
    exact q
  | tup _ ts hz hts =>
    obtain ⟨a, xs, rfl, ea, pa⟩ := hv.inv
    obtain ⟨b, ys, rfl, eb, pb⟩ := hu.inv
    have la := (paired_get pa).1
    have lb := (paired_get pb).1
    refine ⟨_, rfl, _, _, _, _, true, rfl, .ty "tuple", hu.ty, kit_ty kb_tuple_tuple, _, rfl, iteT ?_⟩
    refine ⟨_, rfl, _, _, _, _, true, rfl, .ty "tuple", hv.ty, kit_ty kb_tuple_tuple, _, rfl, iteF ?_⟩
    refine ⟨_, rfl, a, _, rfl, .inr (SqT.of ea), _, rfl, b, _, rfl, .inr (SqT.of eb), rfl, _, rfl, ?_⟩
    rw [la, lb, decide_eq_true rfl]
    refine iteF ?_
    refine ⟨_, rfl, b, _, rfl, .inr (SqT.of eb), _, rfl, by omega, by omega, for_range (lo := 0) (n := ((ys.length : Nat) : Int).toNat)
      (fun i σ H1 => H1 = H ∧ ∃ x2 : Option V, σ = [some (.ref a), some (.ref b), x2]) ⟨rfl, none, rfl⟩ (fun i σ H1 hi hW => ?_) (fun σ H1 hW => ?_)⟩
    · obtain ⟨rfl, x2, rfl⟩ := hW
      have hi1 : i < ts.length := by omega
      have ga : xs[i]? = some xs[i] := List.getElem?_eq_getElem (by omega)
      have gb : ys[i]? = some ys[i] := List.getElem?_eq_getElem (by omega)
      have gt : ts[i]? = some ts[i] := List.getElem?_eq_getElem hi1
      refine ⟨_, rfl, _, rfl, a, _, (i : Int), _, rfl, by rw [Int.zero_add], SqT.of ea, atI_nat ga, _, rfl, _, rfl, b, _, (i : Int), _, rfl, by rw [Int.zero_add], SqT.of eb, atI_nat gb, ?_⟩
      refine ⟨ts[i], _, _, rfl, (paired_get pa).2 i _ _ gt ga, (paired_get pb).2 i _ _ gt gb, hts _ (List.getElem_mem hi1), _, rfl, ?_⟩
      exact iteF ⟨rfl, _, rfl⟩
    · obtain ⟨rfl, x2, rfl⟩ := hW
      exact q
end
end Pw
namespace Pw
open PySem PySem.Spec PyProof.Rows L2
abbrev sWithin : Stmt := topS 9
abbrev sWalk : Stmt := topS 8
theorem scWithin : FnScope ["template", "contents", "others"] ["template"] (defScope sWithin) := ⟨rfl, rfl, rfl, by decide +kernel, rfl, by decide +kernel, by decide +kernel⟩
theorem scWalk : FnScope ["contents", "before", "around", "found", "number", "template", "place", "behind", "inner"] ["contents", "before", "around"] (defScope sWalk) := ⟨rfl, rfl, rfl, by decide +kernel, rfl, by decide +kernel, by decide +kernel⟩
section
variable {P : Program} {w : World} {K : PySem.W.Frag} {mg : Str → Option Value} {base : Heap}
theorem ok_within {f : Addr} {fd : FuncData} {k : Nat} (F : Fun K "_rows_within" "_rows_within" sWithin f fd) : FnOk P w K mg base CX0 (k + 1) f fd ["template"] spWithin := by
  refine F.ok scWithin (fun vs H Q E h => ?_) (fun cdv A outer s H vs Q E' hr h => ?_)
  · obtain ⟨t, v, rfl, _⟩ := h
    rfl
  obtain ⟨t, v, rfl, ht, q⟩ := h
  have nd := scWithin.nd
  refine ⟨_, (pss_one (ps_match (pv 0) (pcs_cons nd (pp_seq rfl (pps_cons' pp_str (pps_cons' pp_any (pps_cons' pp_any (pps_cons' pp_any (pps_cons' (pp_name 1) pps_nil')))))) (pss_one (ps_ret (pe_tup (pa_cons (pe_tup (pa_cons (pe_tup pa_nil) (pa_cons (pv 1) pa_nil))) pa_nil))))
  (pcs_cons nd (pp_seq rfl (pps_cons' pp_str (pps_cons' pp_any (pps_cons' (pp_name 1) pps_nil')))) (pss_one (ps_ret (pe_tup (pa_cons (pe_tup (pa_cons (pe_tup pa_nil) (pa_cons (pv 1) pa_nil))) pa_nil))))
  (pcs_cons nd (pp_seq rfl (pps_cons' pp_str (pps_cons' pp_any (pps_cons' (pp_name 1) (pps_cons' (pp_name 2) pps_nil'))))) (pss_one (ps_ret (pe_tup (pa_cons (pe_tup (pa_cons (pe_tup (pa_cons pe_int pa_nil)) (pa_cons (pv 1) pa_nil))) (pa_cons (pe_tup (pa_cons (pe_tup (pa_cons pe_int pa_nil)) (pa_cons (pv 2) pa_nil))) pa_nil)))))
  (pcs_cons nd pp_any (pss_one (ps_ret (pe_tup pa_nil)))
  pcs_nil)))))), ?_⟩
  cases t with
  | box tag key act cs =>
    obtain ⟨a, _, v1, v2, v3, v4, rfl, ha, p0, p1, p2, p3, p4⟩ := IsT.inv5 ht
    obtain rfl := p0.of_str
    refine ⟨_, rfl, case_hit (SqT.of ha) rfl ⟨_, _, rfl, _, _, rfl, _, _, rfl, _, _, rfl, sz, fun q0 h0 => ⟨_, rfl, sz, fun q1 h1 => ⟨sz, fun q2 h2 => ?_⟩⟩⟩⟩
    have o1 : Oth [] (upd H q0 (.tup [])) (upd (upd H q0 (.tup [])) q1 (.tup [.ref q0, v4])) := Oth.new h1
    have o2 : Oth [] (upd (upd H q0 (.tup [])) q1 (.tup [.ref q0, v4])) (upd (upd (upd H q0 (.tup [])) q1 (.tup [.ref q0, v4])) q2 (.tup [.ref q1])) := Oth.new h2
    have o0 : Oth [] H (upd H q0 (.tup [])) := Oth.new h0
    exact q _ _ (.mk1 upd_same (.mk2 (o2.tup _ _ upd_same) (.mk (o2.tup _ _ (o1.tup _ _ upd_same)) .nil) (((p4.oth o0).oth o1).oth o2))) (o0.trans (o1.trans o2))
  | each e cs =>
    obtain ⟨a, _, v1, v4, rfl, ha, p0, p1, p4⟩ := IsT.inv3 ht
    obtain rfl := p0.of_str
    refine ⟨_, rfl, case_skip (SqT.of ha) (by decide) (case_hit (SqT.of ha) rfl ⟨_, _, rfl, _, _, rfl, sz, fun q0 h0 => ⟨_, rfl, sz, fun q1 h1 => ⟨sz, fun q2 h2 => ?_⟩⟩⟩)⟩
    have o1 : Oth [] (upd H q0 (.tup [])) (upd (upd H q0 (.tup [])) q1 (.tup [.ref q0, v4])) := Oth.new h1
    have o2 : Oth [] (upd (upd H q0 (.tup [])) q1 (.tup [.ref q0, v4])) (upd (upd (upd H q0 (.tup [])) q1 (.tup [.ref q0, v4])) q2 (.tup [.ref q1])) := Oth.new h2
    have o0 : Oth [] H (upd H q0 (.tup [])) := Oth.new h0
    exact q _ _ (.mk1 upd_same (.mk2 (o2.tup _ _ upd_same) (.mk (o2.tup _ _ (o1.tup _ _ upd_same)) .nil) (((p4.oth o0).oth o1).oth o2))) (o0.trans (o1.trans o2))
  | when e cs os =>
    obtain ⟨a, _, v1, v4, v5, rfl, ha, p0, p1, p4, p5⟩ := IsT.inv4 ht
    obtain rfl := p0.of_str
    refine ⟨_, rfl, case_skip (SqT.of ha) (by decide) (case_skip (SqT.of ha) (by decide) (case_hit (SqT.of ha) rfl ⟨_, _, rfl, _, _, rfl, _, _, rfl, sz, fun q0 h0 => ⟨_, rfl, sz, fun q1 h1 => ⟨sz, fun q2 h2 => ⟨_, rfl, sz, fun q3 h3 => ⟨sz, fun q4 h4 => ?_⟩⟩⟩⟩⟩))⟩
    have o0 := Oth.new (S := []) (o := .tup [.int 0]) h0
    have o1 := Oth.new (S := []) (o := .tup [.ref q0, v4]) h1
    have o2 := Oth.new (S := []) (o := .tup [.int 1]) h2
    have o3 := Oth.new (S := []) (o := .tup [.ref q2, v5]) h3
    have o4 := Oth.new (S := []) (o := .tup [.ref q1, .ref q3]) h4
    have o34 := o3.trans o4
    have o234 := o2.trans o34
    have o14 := o1.trans o234
    have o04 := o0.trans o14
    exact q _ _ (.mk2 upd_same (.mk2 (o234.tup _ _ upd_same) (.mk1 (o14.tup _ _ upd_same) (.int _)) (p4.oth o04)) (.mk2 (o4.tup _ _ upd_same) (.mk1 (o34.tup _ _ upd_same) (.int _)) (p5.oth o04))) o04
  | _ =>
    obtain ⟨a, r, rfl, ha⟩ := Tp.kindAt _ ht
    refine ⟨_, rfl, case_skip (SqT.of ha) (by simp only [Tp.kind]; decide) (case_skip (SqT.of ha) (by simp only [Tp.kind]; decide) (case_skip (SqT.of ha) (by simp only [Tp.kind]; decide) ⟨sz, fun p hp => ?_⟩))⟩
    exact q _ _ (.mk upd_same .nil) (Oth.new hp)
theorem ok_walk {f g : Addr} {fd gd : FuncData} {k n : Nat} (F : Fun K "_walk" "_walk" sWalk f fd)
    (GW : FnOk P w K mg base CX0 k f fd ["contents", "before", "around"] (spWalk n)) (bW : Binds K fd ["contents", "before", "around"] []) (kW : PySem.W.keepIn K (.ref f) = true) (mW : mg "_walk" = some (.ref f))
    (GI : FnOk P w K mg base CX0 k g gd ["template"] spWithin) (bI : Binds K gd ["template"] []) (kI : PySem.W.keepIn K (.ref g) = true) (mI : mg "_rows_within" = some (.ref g)) (m_enumerate : mg "enumerate" = none) :
    FnOk P w K mg base CX0 (k + 1) f fd ["contents", "before", "around"] (spWalk (n + 1)) := by
  refine F.ok scWalk (fun vs H Q E h => ?_) (fun cdv A outer s H vs Q E' hr h => ?_)
  · obtain ⟨ts, pl, ar, vc, vb, va, rfl, _⟩ := h
    rfl
  obtain ⟨ts, pl, ar, vc, vb, va, rfl, hc, hb, ha, hd, hz, hpl, har, q⟩ := h
  have nd := scWalk.nd
  refine ⟨_, (pss_cons (ps_set (i := 3) nd rfl (.inl rfl) (pe_lst pa_nil))
  (pss_cons (ps_for PassesOwn.never rfl (pi_enumT (by rfl) m_enumerate (pa_cons (pv 0) pa_nil)) (pg_tup rfl (pgs_cons (pg_name (i := 4) nd rfl (.inl rfl)) (pgs_cons (pg_name (i := 5) nd rfl (.inl rfl)) pgs_nil)))
  (pss_cons (ps_set (i := 6) nd rfl (.inl rfl) (pe_op op_catA (pv 1) (pe_tup (pa_cons (pv 4) pa_nil))))
  (pss_cons (ps_expr (pe_bm PySem.F.plainAttrs_list PySem.F.slot_list_append PySem.F.type_list_append mt_append (pv 3) (pa_cons (pe_tup (pa_cons (pv 6) (pa_cons (pv 5) (pa_cons (pv 2) pa_nil)))) pa_nil)))
  (pss_one (ps_for PassesOwn.never rfl (pi_tup (pe_call GI hr rfl mI kI bI .nil pass0 (pa_cons (pv 5) pa_nil))) (pg_tup rfl (pgs_cons (pg_name (i := 7) nd rfl (.inl rfl)) (pgs_cons (pg_name (i := 8) nd rfl (.inl rfl)) pgs_nil)))
  (pss_one (ps_expr (pe_bm PySem.F.plainAttrs_list PySem.F.slot_list_extend PySem.F.type_list_extend mt_extend (pv 3) (pa_cons (pe_call GW hr rfl mW kW bW .nil pass0 (pa_cons (pv 8) (pa_cons (pe_op op_catA (pv 6) (pv 7)) (pa_cons (pe_op op_catA (pv 2) (pe_tup (pa_cons (pe_ix ix_tup (pv 5) pe_int (fun _ _ => rfl)) pa_nil))) pa_nil)))) pa_nil)))))))))
  (pss_one (ps_ret (pv 3))))), ?_⟩
  obtain ⟨ac, xs, rfl, ec, pc⟩ := hc.inv
  obtain ⟨ab, rfl, eb⟩ := hb.ints
  obtain ⟨aa, rfl, ea⟩ := ha.strs
  have lxs := (paired_get pc).1
  rw [Tp.toTs_map, List.length_map] at lxs
  refine ⟨sz, fun p hp => ?_⟩
  have o0 := Oth.new (S := []) (o := .lst []) hp
  refine ⟨_, rfl, ac, xs, rfl, SqT.of (o0.tup _ _ ec), for_enumT
    (fun i σ H1 => ∃ (x4 x5 x6 x7 x8 : Option V) (rs : List V), σ = [some (.ref ac), some (.ref ab), some (.ref aa), some (.ref p), x4, x5, x6, x7, x8] ∧ Oth [] H H1 ∧ H1 p = some (.lst rs) ∧ RowsT H1 (Tp.lst pl 0 ar (ts.take i)) rs)
    ⟨none, none, none, none, none, [], rfl, o0, upd_same, .nil⟩ (fun i σ H1 _ hW => ?_) (fun i x σ H1 Tt hx hW hT => ?_) (fun σ H1 hW => ?_)⟩
  · obtain ⟨_, _, _, _, _, _, _, o1, _, _⟩ := hW
    exact SqT.of (o1.tup _ _ ec)
  · obtain ⟨x4, x5, x6, x7, x8, rs, rfl, o1, hp1, hr1⟩ := hW
    have hi : i < ts.length := by rw [← lxs]; exact (List.getElem?_eq_some_iff.mp hx).1
    obtain ⟨t, gt⟩ : ∃ t, ts[i]? = some t := ⟨ts[i], List.getElem?_eq_getElem hi⟩
    have ht : IsT H t.toT x := (paired_get pc).2 i _ _ (by rw [Tp.toTs_map, List.getElem?_map, gt]; rfl) hx
    have oT := Oth.new (S := []) (o := .tup [.int ((i : Nat) : Int), x]) hT
    have o2 := o1.trans oT
    have hp2 := oT.keep p _ (by simp) hp1
    have tm : t ∈ ts := List.mem_of_getElem? gt
    have all : Tp.cnts (ts.take i) + t.cnt ≤ Tp.cnts ts := by
      have e1 : ts = ts.take i ++ t :: ts.drop (i + 1) := by
        have e3 : t = ts[i] := by rw [List.getElem?_eq_getElem hi] at gt; exact (Option.some.inj gt).symm
        rw [e3, ← List.drop_eq_getElem_cons hi, List.take_append_drop]
      have e2 : ∀ a b : List Tp, Tp.cnts (a ++ b) = Tp.cnts a + Tp.cnts b := fun a b => by
        induction a with
        | nil => simp [Tp.cnts]
        | cons u a ih => simp only [List.cons_append, Tp.cnts, ih]; omega
      have e4 := congrArg Tp.cnts e1
      rw [e2, Tp.cnts] at e4
      omega
    have tdep : t.dep ≤ Tp.deps ts := by
      have : ∀ l : List Tp, t ∈ l → t.dep ≤ Tp.deps l := fun l => by
        induction l with
        | nil => intro h; cases h
        | cons u l ih =>
          intro h
          simp only [Tp.deps]
          rcases List.mem_cons.mp h with rfl | h
          · omega
          · have := ih h; omega
      exact this ts tm
    -- the place
    refine ⟨Tt, _, rfl, SqT.of upd_same, rfl, _, _, rfl, _, _, rfl, rfl, ?_⟩
    refine ⟨_, rfl, _, rfl, sz, fun r1 hr1' => cat_t ((o2.trans (Oth.new hr1')).tup _ _ eb) upd_same (by simp; omega) fun r2 H3 o3 e3 => ?_⟩
    have o3' := (Oth.new (S := []) (o := .tup [.int ((i : Nat) : Int)]) hr1').trans o3
    have o4 := o2.trans o3'
    have hp3 := o3'.keep p _ (by simp) hp2
    have e3' : H3 r2 = some (.tup ((pl ++ [(i : Int)]).map V.int)) := by rw [e3, List.map_append]; rfl
    -- the row
    refine ⟨_, rfl, .inl ⟨rfl, _, SqL.of hp3⟩, _, rfl, _, rfl, _, rfl, sz, fun r3 hr3 => ?_⟩
    have o5 := Oth.new (S := []) (o := .tup [.ref r2, x, .ref aa]) hr3
    have hp4 := o5.keep p _ (by simp) hp3
    have lrs : rs.length ≤ 5000 := by
      rw [hr1.len, Tp.lst_len]
      omega
    refine ⟨p, _, _, rfl, rfl, hp4, Nat.lt_of_le_of_lt lrs (by decide), ?_⟩
    have o6 : Oth [p] (upd H3 r3 (.tup [.ref r2, x, .ref aa])) (upd (upd H3 r3 (.tup [.ref r2, x, .ref aa])) p (.lst (rs ++ [.ref r3]))) := Oth.put (by simp) hp4
    have o46 : Oth [] H (upd (upd H3 r3 (.tup [.ref r2, x, .ref aa])) p (.lst (rs ++ [.ref r3]))) := Oth.drop (p := p) (((o4.trans o5).mono (by simp)).trans o6) hp
    have rr : RowsT (upd (upd H3 r3 (.tup [.ref r2, x, .ref aa])) p (.lst (rs ++ [.ref r3]))) (Tp.lst pl 0 ar (ts.take i) ++ [⟨pl ++ [(i : Int)], t, ar⟩]) (rs ++ [.ref r3]) := by
      refine Paired.appendP (RowsT.oth o6 (RowsT.oth o5 (RowsT.oth o3' (RowsT.oth oT hr1)))) (.cons ?_ .nil)
      exact .mk3 (o6.tup _ _ upd_same) (.mkInts (o6.tup _ _ (o5.tup _ _ e3'))) (ht.oth o46) (.mkStrs (o46.tup _ _ ea))
    -- what stands within
    refine ⟨_, rfl, t, x, rfl, ht.oth o46, fun rw H7 hw o7 => ?_⟩
    obtain ⟨aw, ws, rfl, ew, pw⟩ := hw.inv
    have lws := (paired_get pw).1
    rw [List.length_map] at lws
    have hp7 := o7.keep p _ (by simp) upd_same
    refine ⟨aw, rfl, ⟨ws, SqT.of ew⟩, for_tup (xs := ws)
      (fun j σ H8 => ∃ (x7 x8 : Option V) (rs : List V), σ = [some (.ref ac), some (.ref ab), some (.ref aa), some (.ref p), some (.int ((i : Nat) : Int)), some x, some (.ref r2), x7, x8] ∧ Oth [] H H8 ∧ H8 aw = some (.tup ws) ∧ H8 r2 = some (.tup ((pl ++ [(i : Int)]).map V.int)) ∧ Paired (IsT H8) (t.withins.map pairT) ws ∧ H8 p = some (.lst rs) ∧
        RowsT H8 (Tp.lst pl 0 ar (ts.take i) ++ [⟨pl ++ [(i : Int)], t, ar⟩] ++ Tp.rowsOf (pl ++ [(i : Int)]) ar t.kind (t.withins.take j)) rs)
      ⟨x7, x8, _, rfl, o46.trans o7, ew, (o7.tup _ _ (o6.tup _ _ (o5.tup _ _ e3'))), pw, hp7, by simpa [Tp.rowsOf] using RowsT.oth o7 rr⟩ (fun j σ H8 _ hW => ?_) (fun j y σ H8 hy hW => ?_) (fun σ H8 hW => ?_)⟩
    · obtain ⟨_, _, _, _, _, e8, _⟩ := hW
      exact SqT.of e8
    · obtain ⟨x7, x8, rs, rfl, o8, ew8, er8, pw8, hp8, hr8⟩ := hW
      have hj : j < t.withins.length := by rw [← lws]; exact (List.getElem?_eq_some_iff.mp hy).1
      obtain ⟨pr, gp⟩ : ∃ pr, t.withins[j]? = some pr := ⟨t.withins[j], List.getElem?_eq_getElem hj⟩
      have pm : pr ∈ t.withins := List.mem_of_getElem? gp
      have hy2 : IsT H8 (pairT pr) y := (paired_get pw8).2 j _ _ (by rw [List.getElem?_map, gp]; rfl) hy
      obtain ⟨ay, b1, b2, rfl, ey, y1, y2⟩ := IsT.inv2 hy2
      obtain ⟨ab1, rfl, eb1⟩ := y1.ints
      obtain ⟨at', rt, rfl, et⟩ := Tp.kindAt t (ht.oth o8)
      have wl := (Tp.withins_len t).2 pr pm
      have wd := Tp.withins_dep t pr pm
      have wc := Tp.withins_cnt t pr pm
      refine ⟨ay, _, rfl, SqT.of ey, rfl, _, _, rfl, _, _, rfl, rfl, ?_⟩
      refine ⟨_, rfl, .inl ⟨rfl, _, SqL.of hp8⟩, _, rfl, _, rfl, _, rfl, cat_t er8 eb1 (by simp; omega) fun s1 H9 o9 e9 => ?_⟩
      have o89 := o8.trans o9
      refine ⟨_, rfl, _, rfl, at', _, _, _, rfl, rfl, SqT.of (o9.tup _ _ et), at0, sz, fun s2 hs2 => cat_t ((o89.trans (Oth.new hs2)).tup _ _ ea) upd_same (by simp; omega) fun s3 H10 o10 e10 => ?_⟩
      have o10' := (Oth.new (S := []) (o := .tup [.str t.kind]) hs2).trans o10
      have o910 := o9.trans o10'
      have f9 : H10 s1 = some (.tup ((pl ++ [(i : Int)] ++ pr.1).map V.int)) := by rw [o10'.tup _ _ e9, ← List.map_append]
      have f10 : H10 s3 = some (.tup ((ar ++ [t.kind]).map V.str)) := by rw [e10, List.map_append]; rfl
      refine ⟨pr.2, pl ++ [(i : Int)] ++ pr.1, ar ++ [t.kind], _, _, _, rfl, y2.oth o910, .mkInts f9, .mkStrs f10, by omega, by omega, by simp only [List.length_append, List.length_cons, List.length_nil]; omega, by simp only [List.length_append, List.length_cons, List.length_nil]; omega, fun pz H11 zs hpz o11 e11 r11 => ?_⟩
      have hp11 := o11.keep p _ (by simp) (o910.keep p _ (by simp) hp8)
      have lzs : zs.length ≤ 5000 := by rw [r11.len, Tp.lst_len]; omega
      have lrs8 : rs.length ≤ 20000 := by
        rw [hr8.len]
        have e1 : ∀ l : List (List Int × List Tp), (∀ p ∈ l, Tp.cnts p.2 ≤ 5000) → l.length ≤ 2 → (Tp.rowsOf (pl ++ [(i : Int)]) ar t.kind l).length ≤ 10000 := fun l hl h2 => by
          match l, hl, h2 with
          | [], _, _ => simp [Tp.rowsOf]
          | [a], hl, _ => simp only [Tp.rowsOf, List.append_nil, Tp.lst_len]; have := hl a (by simp); omega
          | [a, b], hl, _ => simp only [Tp.rowsOf, List.append_nil, List.length_append, Tp.lst_len]; have := hl a (by simp); have := hl b (by simp); omega
        have e2 := e1 (t.withins.take j) (fun p hp => by have := Tp.withins_cnt t p (List.mem_of_mem_take hp); omega) (by rw [List.length_take]; have := (Tp.withins_len t).1; omega)
        simp only [List.length_append, Tp.lst_len, List.length_cons, List.length_nil]
        omega
      refine ⟨p, pz, _, _, rfl, rfl, hp11, e11, Nat.le_trans (by omega : rs.length + zs.length ≤ 100000) (by decide), ?_⟩
      have o12 : Oth [p] H11 (upd H11 p (.lst (rs ++ zs))) := Oth.put (by simp) hp11
      have o8_12 : Oth [p] H8 (upd H11 p (.lst (rs ++ zs))) := ((o910.trans o11).mono (by simp)).trans o12
      refine ⟨_, _, rs ++ zs, rfl, Oth.drop (p := p) ((o8.mono (by simp)).trans o8_12) hp, o8_12.tup _ _ ew8, o8_12.tup _ _ er8, paired_oth pw8 o8_12, upd_same, ?_⟩
      rw [take_succ gp, Tp.rowsOf_app, ← List.append_assoc]
      refine Paired.appendP (RowsT.oth o8_12 hr8) ?_
      simp only [Tp.rowsOf, List.append_nil]
      exact RowsT.oth o12 r11
    · obtain ⟨x7, x8, rs, rfl, o8, ew8, er8, pw8, hp8, hr8⟩ := hW
      refine ⟨_, _, _, _, _, rs, rfl, o8, hp8, ?_⟩
      rw [lws, List.take_length, ← Tp.under_eq] at hr8
      rw [take_succ gt, Tp.lst_app]
      have hl : (ts.take i).length = i := by rw [List.length_take]; omega
      simp only [Tp.lst, List.append_nil, hl, Nat.zero_add]
      simpa [List.append_assoc] using hr8
  · obtain ⟨x4, x5, x6, x7, x8, rs, rfl, o1, hp1, hr1⟩ := hW
    rw [lxs, List.take_length] at hr1
    exact ⟨_, rfl, q p H1 rs hp o1 hp1 hr1⟩
end
end Pw
namespace Pw
open PySem PySem.Spec PyProof.Rows L2
abbrev sTemplates : Stmt := topS 7
theorem scTemplates : FnScope ["contents"] ["contents"] (defScope sTemplates) := ⟨rfl, rfl, rfl, by decide +kernel, rfl, by decide +kernel, by decide +kernel⟩
section
variable {P : Program} {w : World} {K : PySem.W.Frag} {mg : Str → Option Value} {base : Heap}
theorem ok_templates {c T f g : Addr} {fd gd : FuncData} {k : Nat} (C : CodeAt K "templates" sTemplates f fd c) (TB : GxR.TabB base mg c T)
    (GW : FnOk P w K mg base CX0 k g gd ["contents", "before", "around"] (spWalk 12)) (bW : Binds K gd ["contents", "before", "around"] []) (kW : PySem.W.keepIn K (.ref g) = true) (mW : mg "_walk" = some (.ref g)) (m_tuple : mg "tuple" = none) :
    FnOk P w K mg base CX0 (k + 1) f fd ["contents"] (spTemplates T) := by
  refine C.ok scTemplates (fun vs H Q E h => ?_) (fun A outer s H vs Q E hr h => ?_)
  · obtain ⟨ts, v, rfl, _⟩ := h
    rfl
  obtain ⟨ts, v, rfl, ht, hd, hz, htg, q⟩ := h
  have nd := scTemplates.nd
  refine ⟨_, pss_one (ps_ret (pe_tupGen hr TB rfl ⟨rfl, rfl, by decide +kernel, by decide +kernel, by decide +kernel, by decide +kernel, by decide +kernel, by decide, by decide, by decide, by decide, by decide, fun y hy hf => absurd hf (no_free (by decide +kernel) y hy)⟩ (by rfl) m_tuple (pe_call GW hr rfl mW kW bW .nil pass0 (pa_cons (pv 0) (pa_cons (pe_tup pa_nil) (pa_cons (pe_tup pa_nil) pa_nil)))))), ?_⟩
  refine ⟨_, rfl, sz, fun p0 h0 => ⟨sz, fun p1 h1 => ?_⟩⟩
  have o0 := Oth.new (S := []) (o := .tup []) h0
  have o1 := Oth.new (S := []) (o := .tup []) h1
  have o2 := o0.trans o1
  refine ⟨ts, [], [], _, _, _, rfl, ht.oth o2, .mk (o1.tup _ _ upd_same) .nil, .mk upd_same .nil, hd, hz, by simp, by simp, fun p H' rs hp o e r => ?_⟩
  obtain ⟨ps, rv, pr⟩ := rows_split r
  have len : rs.length ≤ 5000 := by rw [r.len, Tp.lst_len]; exact hz
  have o3 := o2.trans o
  refine ⟨p, rs, ps, rfl, SqL.of e, rv, by omega, TabG.oth htg o3 (by simp), fun H2 qa as pv2 e2 kp tg => ?_⟩
  obtain ⟨tb, etb, _⟩ := TabG.oth htg o3 (by simp)
  have o4 : Oth [T] H' H2 := ⟨fun a o' n h => kp a o' (by simpa using n) h, fun a xs h => kp a _ (fun z => by rw [z, etb] at h; cases h) h⟩
  exact q _ _ (.mk e2 (pairs_join o4 pr pv2)) ((o3.mono (by simp)).trans o4) tg
end
end Pw
namespace Pw
open PySem PySem.Spec PyProof.Rows L2
def clsS (i j : Nat) : Stmt := match topS i with
  | .ClassDef _ _ _ b _ _ _ _ _ _ _ => b.getD j (.Pass ⟨0, 0, 0, 0⟩)
  | s => s
abbrev sInit : Stmt := clsS 2 0
theorem scInit : FnScope ["self", "component", "place", "reason"] ["self", "component", "place", "reason"] (defScope sInit) := ⟨rfl, rfl, rfl, by decide +kernel, rfl, by decide +kernel, by decide +kernel⟩
section
variable {P : Program} {w : World} {K : PySem.W.Frag} {mg : Str → Option Value} {base : Heap}
theorem ok_init {f C D : Addr} {mc : Value} {fd : FuncData} {k : Nat} (F : Fun K "__init__" "ProgramFault.__init__" sInit f fd)
    (mD : mg "PageFault" = some (.ref D)) (g1 : PySem.W.specialIn K (.ref D) "__getattribute__" = some (some (.builtin "type.__getattribute__"))) (g2 : PySem.W.readsIn K D mc = true) (g3 : PySem.W.findCls K (.ref D) mc "__init__" = some (.val (.builtin "ValueError.__init__"))) :
    FnOk P w K mg base CX0 (k + 1) f fd ["self", "component", "place", "reason"] (spInit K C) := by
  refine F.ok scInit (fun vs H Q E h => ?_) (fun cdv A outer s H vs Q E' hr h => ?_)
  · obtain ⟨a, c, pl, vp, re, rfl, _⟩ := h
    rfl
  obtain ⟨a, c, pl, vp, re, rfl, T, ha, hp, hpl, hpl2, hc0, hc1, hre, f1, f2, f3, q⟩ := h
  have nd := scInit.nd
  have hu : (A.deeper (envOfC "ProgramFault.__init__" (defScope sInit) s.heap.objs.size f cdv)).units + 2 < cLine := by have := hr.un; omega
  refine ⟨_, (pss_cons (ps_expr (pe_oinit (by rfl) mD g1 g2 g3 (pa_cons (pv 0) (pa_cons (pe_joined (.cons pe_str (.cons (pe_fmt (pv 1)) (.cons pe_str (.cons (pe_fmtT hu (pv 2)) (.cons pe_str (.cons (pe_fmt (pv 3)) .nil))))))) pa_nil))))
  (pss_cons (ps_ost (pv 0) (pv 1))
  (pss_cons (ps_ost (pv 0) (pv 2))
  (pss_one (ps_ost (pv 0) (pv 3)))))), ?_⟩
  obtain ⟨ap, rfl, ep⟩ := hp.ints
  obtain ⟨il, ib⟩ := int_len' c hc0 hc1
  have l0 : Str.empty.length ≤ 0 := Nat.le_refl _
  have l1 := joinL l0 (show ("component " : Str).length ≤ 10 from Nat.le_refl _)
  have l2 := joinL l1 il
  have l3 := joinL l2 (show (", place " : Str).length ≤ 8 from Nat.le_refl _)
  refine ⟨_, rfl, _, rfl, line_of l1 (by decide), _, rfl, .inr ⟨c, rfl, ib, _, rfl, line_of l2 (by decide), _, rfl, line_of l3 (by decide), _, rfl, ap, pl, rfl, ep, hpl, hpl2, fun y hy => ?_⟩⟩
  have l4 := joinL l3 hy
  have l5 := joinL l4 (show (": " : Str).length ≤ 2 from Nat.le_refl _)
  have l6 := joinL l5 hre
  refine ⟨_, rfl, line_of l4 (by decide), _, rfl, line_of l5 (by decide), _, rfl, .inl ⟨re, rfl, line_of hre (by decide), _, rfl, line_of l6 (by decide), ?_⟩⟩
  refine ⟨a, C, _, rfl, by simp, T, ha, ?_⟩
  refine ⟨_, rfl, _, rfl, a, C, rfl, T, f1, .inl ⟨ha, fun d hd nda => ?_⟩⟩
  have nad : a ≠ d := nda.symm
  have e1 : upd (upd H d (exd d [("component", .int c)])) a (exo a C (some d)) a = some (exo a C (some d)) := upd_same
  have e2 : upd (upd H d (exd d [("component", .int c)])) a (exo a C (some d)) d = some (exd d [("component", .int c)]) := by rw [upd_ne nda]; exact upd_same
  refine ⟨_, rfl, _, rfl, a, C, rfl, T, f2, .inr ⟨d, _, e1, e2, by simp, ?_⟩⟩
  refine ⟨_, rfl, _, rfl, a, C, rfl, T, f3, .inr ⟨d, _, by rw [upd_ne nad]; exact e1, upd_same, by simp, ?_⟩⟩
  refine q d _ hd nda (by rw [upd_ne nad, upd_ne nad]; exact e1) upd_same fun b o n1 n2 e => ?_
  rw [upd_ne n2, upd_ne n2, upd_ne n1, upd_ne n2]
  exact e
end
end Pw
namespace Pw
open PySem PySem.Spec PyProof.Rows L2
abbrev sReasonPart : Stmt := topS 12
abbrev sReason : Stmt := topS 11
theorem scReasonPart : FnScope ["program", "own", "part", "around", "earlier"] ["program", "own", "part", "around", "earlier"] (defScope sReasonPart) := ⟨rfl, rfl, rfl, by decide +kernel, rfl, by decide +kernel, by decide +kernel⟩
theorem scReason : FnScope ["program", "own", "template", "around", "earlier", "component", "part"] ["program", "own", "template", "around", "earlier"] (defScope sReason) := ⟨rfl, rfl, rfl, by decide +kernel, rfl, by decide +kernel, by decide +kernel⟩
section
variable {P : Program} {w : World} {K : PySem.W.Frag} {mg : Str → Option Value} {base : Heap}
theorem ok_reasonPart {f : Addr} {fd : FuncData} {k : Nat} (F : Fun K "_reason_of_part" "_reason_of_part" sReasonPart f fd) (m_len : mg "len" = none) : FnOk P w K mg base CX0 (k + 1) f fd ["program", "own", "part", "around", "earlier"] spReasonPart := by
  refine F.ok scReasonPart (fun vs H Q E h => ?_) (fun cdv A outer s H vs Q E' hr h => ?_)
  · obtain ⟨g, vp, va, own, p, ar, e, seen, rfl, _⟩ := h
    rfl
  obtain ⟨g, vp, va, own, p, ar, e, seen, rfl, hg, ha, he, q⟩ := h
  have nd := scReasonPart.nd
  refine ⟨_, (pss_cons (ps_if (pt_not (pt_chain op_le op_lt pe_int (pv 2) (pe_callB call_len_seq (by rfl) m_len PySem.boot_len (pa_cons (pe_ix ix_tup (pv 0) pe_int (fun _ _ => rfl)) pa_nil))))
  (pss_one (ps_ret pe_str))
  pss_nil)
  (pss_cons (ps_if (PW.pt (pw_or (pt_cmpR op_ne (pv 1) pe_int (nomark _)) (pw_or (pt_cmpR op_in_seq pe_str (pv 3) (by rfl)) (pw_or1 (pt_cmpR op_in_seq pe_str (pv 3) (by rfl))))))
  (pss_one (ps_ret pe_str))
  pss_nil)
  (pss_cons (ps_if (pt_cmpR op_in_seq (pv 2) (pv 4) (by rfl))
  (pss_one (ps_ret pe_str))
  pss_nil)
  (pss_one (ps_ret pe_non))))), ?_⟩
  obtain ⟨a, c, s', qq, cs, rfl, ea, ec, pc, es, eq⟩ := Pg.inv hg
  obtain ⟨aa, rfl, eaa⟩ := ha.strs
  refine ⟨_, rfl, _, _, rfl, rfl, _, rfl, iteTd (by omega) ?_⟩
  refine ⟨_, rfl, a, _, _, _, rfl, rfl, SqT.of ea, at3, qq, _, rfl, .inr (SqT.of eq), _, _, rfl, rfl, _, rfl, ?_⟩
  unfold reasonPart at q
  by_cases c1 : g.parts.length ≤ p
  · rw [if_pos c1] at q
    exact iteTb (by simp; omega) q
  rw [if_neg c1] at q
  refine iteFb (by simp; omega) ?_
  have tail : ∀ (b : Bool), b = decide (own ≠ 0 ∨ ("when" : Str) ∈ ar ∨ ("each" : Str) ∈ ar) → True := fun _ _ => trivial
  by_cases c2 : own ≠ 0
  · rw [if_pos (.inl c2)] at q
    exact ⟨_, rfl, rfl, _, rfl, iteTb (by simp; omega) (iteT q)⟩
  refine ⟨_, rfl, rfl, _, rfl, iteFb (by simp; omega) ?_⟩
  by_cases c3 : ("when" : Str) ∈ ar
  · rw [if_pos (.inr (.inl c3))] at q
    exact ⟨_, rfl, aa, _, rfl, .inr (SqT.of eaa), rfl, flat_strs _, _, rfl, iteTb ((inV_strs _ _).trans (decide_eq_true c3)) (iteT q)⟩
  refine ⟨_, rfl, aa, _, rfl, .inr (SqT.of eaa), rfl, flat_strs _, _, rfl, iteFb ((inV_strs _ _).trans (decide_eq_false c3)) ?_⟩
  by_cases c4 : ("each" : Str) ∈ ar
  · rw [if_pos (.inr (.inr c4))] at q
    exact ⟨_, rfl, aa, _, rfl, .inr (SqT.of eaa), rfl, flat_strs _, _, rfl, iteTb ((inV_strs _ _).trans (decide_eq_true c4)) q⟩
  refine ⟨_, rfl, aa, _, rfl, .inr (SqT.of eaa), rfl, flat_strs _, _, rfl, iteFb ((inV_strs _ _).trans (decide_eq_false c4)) ?_⟩
  rw [if_neg (by rintro (h | h | h) <;> contradiction)] at q
  by_cases c5 : p ∈ seen
  · rw [if_pos c5] at q
    exact ⟨_, rfl, _, rfl, e, _, rfl, .inl (SqL.of he), rfl, flat_nats _, _, rfl, iteTb ((inV_nats _ _).trans (decide_eq_true c5)) q⟩
  · rw [if_neg c5] at q
    exact ⟨_, rfl, _, rfl, e, _, rfl, .inl (SqL.of he), rfl, flat_nats _, _, rfl, iteFb ((inV_nats _ _).trans (decide_eq_false c5)) q⟩
theorem ok_reason {f fY : Addr} {fd dY : FuncData} {k : Nat} {tk : Tok} (F : Fun K "_reason" "_reason" sReason f fd) (m_len : mg "len" = none) (c_MA : mg "MOST_AROUND" = some (.int 3 tk))
    (GY : FnOk P w K mg base CX0 k fY dY ["program", "own", "part", "around", "earlier"] spReasonPart) (bY : Binds K dY ["program", "own", "part", "around", "earlier"] []) (kY : PySem.W.keepIn K (.ref fY) = true) (mY : mg "_reason_of_part" = some (.ref fY)) :
    FnOk P w K mg base CX0 (k + 1) f fd ["program", "own", "template", "around", "earlier"] spReason := by
  refine F.ok scReason (fun vs H Q E h => ?_) (fun cdv A outer s H vs Q E' hr h => ?_)
  · obtain ⟨g, vp, vt, va, own, t, ar, e, seen, rfl, _⟩ := h
    rfl
  obtain ⟨g, vp, vt, va, own, t, ar, e, seen, rfl, hg, ht, ha, he, q⟩ := h
  have nd := scReason.nd
  refine ⟨_, (pss_cons (ps_if (pt_cmpR op_gt (pe_callB call_len_seq (by rfl) m_len PySem.boot_len (pa_cons (pv 3) pa_nil)) (pe_glob (v := .int 3) (by rfl) c_MA ⟨_, rfl⟩) (nomark _))
  (pss_one (ps_ret pe_str))
  pss_nil)
  (pss_one (ps_match (pv 2) (pcs_cons nd (pp_seq rfl (pps_cons' pp_str (pps_cons' (pp_name 5) (pps_cons' pp_any (pps_cons' pp_any pps_nil'))))) (pss_one (ps_ret (pe_ifExp (pt_chain op_lt op_lt (pv 1) (pv 5) (pe_callB call_len_seq (by rfl) m_len PySem.boot_len (pa_cons (pe_ix ix_tup (pv 0) pe_int (fun _ _ => rfl)) pa_nil))) pe_non pe_str)))
  (pcs_cons nd (pp_seq rfl (pps_cons' pp_str (pps_cons' (pp_name 6) pps_nil'))) (pss_one (ps_ret (pe_call GY hr rfl mY kY bY .nil pass0 (pa_cons (pv 0) (pa_cons (pv 1) (pa_cons (pv 6) (pa_cons (pv 3) (pa_cons (pv 4) pa_nil))))))))
  (pcs_cons nd pp_any (pss_one (ps_ret pe_non))
  pcs_nil)))))), ?_⟩
  obtain ⟨a, c, s', qq, cs, rfl, ea, ec, pc, es, eq⟩ := Pg.inv hg
  obtain ⟨aa, rfl, eaa⟩ := ha.strs
  have lcs : cs.length = g.comps.length := by rw [(paired_get pc).1, List.length_map]
  unfold reasonOf at q
  refine ⟨_, rfl, aa, _, rfl, .inr (SqT.of eaa), _, _, rfl, rfl, _, rfl, ?_⟩
  by_cases c1 : 3 < ar.length
  · rw [if_pos c1] at q
    exact iteTb (by simp; omega) q
  rw [if_neg c1] at q
  refine iteFb (by simp; omega) ?_
  cases t with
  | child ch key props =>
    obtain ⟨at', _, v1, v2, v3, rfl, hat, p0, p1, p2, p3⟩ := IsT.inv4 ht
    obtain rfl := p0.of_str
    obtain rfl := p1.of_int
    refine ⟨_, rfl, case_hit (SqT.of hat) rfl ⟨_, _, rfl, _, _, rfl, _, _, rfl, ?_⟩⟩
    dsimp only at q
    refine ⟨_, rfl, _, rfl, _, _, rfl, rfl, _, rfl, ?_⟩
    by_cases c2 : own < ch
    · refine iteTb (by simp; omega) ⟨_, rfl, a, _, _, _, rfl, rfl, SqT.of ea, at1, c, _, rfl, .inr (SqT.of ec), _, _, rfl, rfl, _, rfl, ?_⟩
      by_cases c3 : ch < g.comps.length
      · rw [if_pos ⟨c2, c3⟩] at q
        exact iteTb (by simp; omega) q
      · rw [if_neg fun z => c3 z.2] at q
        exact iteFb (by simp; omega) q
    · rw [if_neg fun z => c2 z.1] at q
      exact iteFb (by simp; omega) ⟨_, rfl, iteF q⟩
  | part p =>
    obtain ⟨at', _, v1, rfl, hat, p0, p1⟩ := IsT.inv2 ht
    obtain rfl := p0.of_str
    obtain rfl := p1.of_int
    refine ⟨_, rfl, case_skip (SqT.of hat) (by decide) (case_hit (SqT.of hat) rfl ⟨_, _, rfl, ?_⟩)⟩
    exact ⟨_, rfl, _, rfl, _, rfl, _, rfl, _, rfl, g, _, _, own, p, ar, e, seen, rfl, hg, .mkStrs eaa, he, q⟩
  | _ =>
    obtain ⟨at', r', rfl, hat⟩ := Tp.kindAt _ ht
    exact ⟨_, rfl, case_skip (SqT.of hat) (by simp only [Tp.kind]; decide) (case_skip (SqT.of hat) (by simp only [Tp.kind]; decide) q)⟩
end
end Pw
namespace Pw
open PySem PySem.Spec PyProof.Rows L2
abbrev sComp : Stmt := topS 10
theorem scComp : FnScope ["program", "own", "found", "earlier", "place", "template", "around", "reason"] ["program", "own"] (defScope sComp) := ⟨rfl, rfl, rfl, by decide +kernel, rfl, by decide +kernel, by decide +kernel⟩
section
variable {P : Program} {w : World} {K : PySem.W.Frag} {mg : Str → Option Value} {base : Heap}
theorem ok_comp {f fW fX fI C : Addr} {fd dW dX dF : FuncData} {k : Nat} {tk tk2 : Tok} (F : Fun K "_check_component" "_check_component" sComp f fd) (m_len : mg "len" = none) (c_MT : mg "MOST_TEMPLATES" = some (.int 24 tk))
    (GW : FnOk P w K mg base CX0 (k + 1) fW dW ["contents", "before", "around"] (spWalk 12)) (bW : Binds K dW ["contents", "before", "around"] []) (kW : PySem.W.keepIn K (.ref fW) = true) (mW : mg "_walk" = some (.ref fW))
    (GX : FnOk P w K mg base CX0 (k + 1) fX dX ["program", "own", "template", "around", "earlier"] spReason) (bX : Binds K dX ["program", "own", "template", "around", "earlier"] []) (kX : PySem.W.keepIn K (.ref fX) = true) (mX : mg "_reason" = some (.ref fX))
    (TC : FaultC K C fI) (GF : FnOk P w K mg base CX0 k fI dF ["self", "component", "place", "reason"] (spInit K C)) (bF : Binds K dF ["self", "component", "place", "reason"] []) (mF : mg "ProgramFault" = some (.ref C)) :
    FnOk P w K mg base (L2N.CX P w) (k + 1 + 1) f fd ["program", "own"] (spComp C) := by
  refine Pw.Fun.okN F scComp (fun vs H Q E h => ?_) (fun cdv A outer s H vs Q E hr h => ?_)
  · obtain ⟨g, vp, own, c, rfl, _⟩ := h
    rfl
  obtain ⟨g, vp, own, c, rfl, hg, fit, gc, q⟩ := h
  have nd := scComp.nd
  refine ⟨_, (pss_cons (ps_set (i := 2) nd rfl (.inl rfl) (pe_call GW hr rfl mW kW bW .nil pass0 (pa_cons (pe_ix ix_tup (pe_ix ix_tup (pe_ix ix_tup (pv 0) pe_int (fun _ _ => rfl)) (pv 1) (fun _ _ => rfl)) pe_int (fun _ _ => rfl)) (pa_cons (pe_tup pa_nil) (pa_cons (pe_tup pa_nil) pa_nil)))))
  (pss_cons (ps_set (i := 3) nd rfl (.inl rfl) (pe_lst pa_nil))
  (pss_cons (ps_for (passes_of rfl) rfl (pi_list (pv 2)) (pg_tup rfl (pgs_cons (pg_name (i := 4) nd rfl (.inl rfl)) (pgs_cons (pg_name (i := 5) nd rfl (.inl rfl)) (pgs_cons (pg_name (i := 6) nd rfl (.inl rfl)) pgs_nil))))
  (pss_cons (ps_set (i := 7) nd rfl (.inl rfl) (pe_call GX hr rfl mX kX bX .nil pass0 (pa_cons (pv 0) (pa_cons (pv 1) (pa_cons (pv 5) (pa_cons (pv 6) (pa_cons (pv 3) pa_nil)))))))
  (pss_cons (ps_if (pt_cmpR op_notN (pv 7) pe_non (nomark _))
  (pss_one (L2N.ps_raise rfl (L2N.takes_of rfl rfl rfl rfl) (pmk_fault TC GF hr bF .nil (by rfl) mF (pa_cons (pv 1) (pa_cons (pv 4) (pa_cons (pv 7) pa_nil))))))
  pss_nil)
  (pss_one (ps_if (pt_cmpR op_eq (pe_ix ix_tup (pv 5) pe_int (fun _ _ => rfl)) pe_str (nomark _))
  (pss_one (ps_expr (pe_bm PySem.F.plainAttrs_list PySem.F.slot_list_append PySem.F.type_list_append mt_append (pv 3) (pa_cons (pe_ix ix_tup (pv 5) pe_int (fun _ _ => rfl)) pa_nil))))
  pss_nil)))))
  (pss_one (ps_if (pt_cmpR op_gt (pe_callB call_len_seq (by rfl) m_len PySem.boot_len (pa_cons (pv 2) pa_nil)) (pe_glob (v := .int 24) (by rfl) c_MT ⟨_, rfl⟩) (nomark _))
  (pss_one (L2N.ps_raise rfl (L2N.takes_of rfl rfl rfl rfl) (pmk_fault TC GF hr bF .nil (by rfl) mF (pa_cons (pv 1) (pa_cons (pe_tup pa_nil) (pa_cons pe_str pa_nil))))))
  pss_nil))))), ?_⟩
  obtain ⟨a, cc, s', qq, cs, rfl, ea, ec, pc, es, eq⟩ := Pg.inv hg
  have fc := fit.1 c (List.mem_of_getElem? gc)
  have fd2 := fc.deps
  have fc2 := fc.cnts
  have hown : own < g.comps.length := (List.getElem?_eq_some_iff.mp gc).1
  have lcs : cs.length = g.comps.length := by rw [(paired_get pc).1, List.length_map]
  have f10 := fit.2.1
  obtain ⟨ci, gci⟩ : ∃ ci, cs[own]? = some ci := ⟨cs[own]'(by omega), List.getElem?_eq_getElem (by omega)⟩
  have hci : IsT H c.toT ci := (paired_get pc).2 own _ _ (by rw [List.getElem?_map, gc]; rfl) gci
  obtain ⟨ai, cx, cy, cz, rfl, eci, ecx, tcs, _⟩ := Cm.inv hci
  refine ⟨_, rfl, a, _, _, _, rfl, rfl, SqT.of ea, at1, _, rfl, cc, _, _, _, rfl, rfl, SqT.of ec, atI_nat gci, ai, _, _, _, rfl, rfl, SqT.of eci, at2, sz, fun p0 h0 => ⟨sz, fun p1 h1 => ?_⟩⟩
  have o01 := (Oth.new (S := []) (o := .tup []) h0).trans (Oth.new (o := .tup []) h1)
  refine ⟨c.cs, [], [], _, _, _, rfl, tcs.oth o01, .mk ((Oth.new (S := []) (o := .tup []) h1).tup _ _ upd_same) .nil, .mk upd_same .nil, fd2, by omega, by simp, by simp, fun p H2 rs hp o2 e2 r2 => ⟨sz, fun pE hE => ?_⟩⟩
  have o02 := o01.trans o2
  have npE : p ≠ pE := ne_of_none e2 hE
  have hE0 : H pE = none := by
    cases z : H pE with
    | none => rfl
    | some x => rw [o02.keep pE _ (by simp) z] at hE; cases hE
  have oE := Oth.new (S := []) (o := .lst []) hE
  have lrs : rs.length = (Tp.lst [] 0 [] c.cs).length := r2.len
  have lrs2 : rs.length ≤ 1700 := by rw [lrs, Tp.lst_len]; exact fc2
  refine ⟨_, rfl, p, rfl, ⟨rs, SqL.of (oE.keep p _ (by simp) e2)⟩, for_list (xs := rs)
    (fun i σ H3 => ∃ (seen : List Nat) (x4 x5 x6 x7 : Option V), σ = [some (.ref a), some (.int (own : Int)), some (.ref p), some (.ref pE), x4, x5, x6, x7] ∧ H3 p = some (.lst rs) ∧ RowsT H3 (Tp.lst [] 0 [] c.cs) rs ∧ H3 pE = some (.lst (seen.map natV)) ∧ Oth [] H H3 ∧
      rowsFault g.comps.length g.parts.length own ((Tp.lst [] 0 [] c.cs).drop i) seen = rowsFault g.comps.length g.parts.length own (Tp.lst [] 0 [] c.cs) [] ∧ seen.length ≤ i)
    ⟨[], none, none, none, none, rfl, oE.keep p _ (by simp) e2, r2.oth oE, upd_same, o02.trans oE, rfl, Nat.zero_le _⟩ (fun i σ H3 _ hW => ?_) (fun i x σ H3 hx hW => ?_) (fun σ H3 hW => ?_)⟩
  · obtain ⟨_, _, _, _, _, _, e, _⟩ := hW
    exact SqL.of e
  · obtain ⟨seen, x4, x5, x6, x7, rfl, e3, r3, eE, o3, hf, ls⟩ := hW
    obtain ⟨r, gr, hr'⟩ := rowsT_get r3 hx
    obtain ⟨ax, v1, v2, v3, rfl, ex, t1, t2, t3⟩ := IsT.inv3 hr'
    have hi : i < rs.length := (List.getElem?_eq_some_iff.mp hx).1
    obtain ⟨pk1, pk2⟩ := place_ok fd2 fc2 (List.mem_of_getElem? gr)
    rw [rowsFault_at gr] at hf
    refine ⟨ax, _, rfl, SqT.of ex, rfl, _, _, rfl, _, _, rfl, _, _, rfl, rfl, ?_⟩
    refine ⟨_, rfl, _, rfl, _, rfl, _, rfl, _, rfl, g, _, _, _, own, r.tp, r.ar, pE, seen, rfl, hg.oth o3, t2, t3, eE, ?_⟩
    cases hre : reasonOf g.comps.length g.parts.length own r.tp r.ar seen with
    | some s =>
      rw [hre] at hf
      dsimp only at hf
      unfold compFault at q
      rw [← hf] at q
      refine ⟨_, rfl, rfl, _, rfl, iteT ?_⟩
      refine ⟨_, rfl, _, rfl, _, rfl, by simp, fun ad had => ?_⟩
      exact throw_mk TC t1 pk1 pk2 (by omega) (by omega) (reason_short hre) (q.oth o3) ad had
    | none =>
      rw [hre] at hf
      dsimp only at hf
      refine ⟨_, rfl, rfl, _, rfl, iteF ?_⟩
      by_cases hk : ∃ n, r.tp = .part n
      · obtain ⟨n, hk⟩ := hk
        rw [hk] at t2 hf
        obtain ⟨at', _, w1, rfl, hat, p0, p1'⟩ := IsT.inv2 t2
        obtain rfl := p0.of_str
        obtain rfl := p1'.of_int
        refine ⟨_, rfl, at', _, _, _, rfl, rfl, SqT.of hat, at0, rfl, _, rfl, iteTd rfl ?_⟩
        refine ⟨_, rfl, .inl ⟨rfl, _, SqL.of eE⟩, _, rfl, at', _, _, _, rfl, rfl, SqT.of hat, at1, pE, _, _, rfl, rfl, eE, Nat.lt_of_le_of_lt (by rw [List.length_map]; omega : (seen.map natV).length ≤ 100000) (by decide), ?_⟩
        have op : Oth [pE] H3 (upd H3 pE (.lst (seen.map natV ++ [natV n]))) := Oth.put (by simp) eE
        exact ⟨seen ++ [n], _, _, _, _, rfl, op.keep p _ (by simp [npE]) e3, r3.oth op, by rw [List.map_append]; exact upd_same, Oth.drop (p := pE) ((o3.mono (by simp)).trans op) hE0, hf, by simp; omega⟩
      · have hk2 : seenOf r.tp seen = seen := by
          cases hh : r.tp with
          | part n => exact absurd ⟨n, hh⟩ hk
          | _ => rfl
        have hk3 : r.tp.kind ≠ "part" := by
          cases hh : r.tp with
          | part n => exact absurd ⟨n, hh⟩ hk
          | _ => simp only [Tp.kind]; decide
        rw [hk2] at hf
        obtain ⟨at', r', rfl, hat⟩ := Tp.kindAt _ t2
        refine ⟨_, rfl, at', _, _, _, rfl, rfl, SqT.of hat, at0, rfl, _, rfl, iteFd (fun z => hk3 (by injection z)) ?_⟩
        exact ⟨seen, _, _, _, _, rfl, e3, r3, eE, o3, hf, by omega⟩
  · obtain ⟨seen, x4, x5, x6, x7, rfl, e3, r3, eE, o3, hf, ls⟩ := hW
    rw [lrs, List.drop_length] at hf
    unfold compFault at q
    rw [← hf] at q
    simp only [rowsFault] at q
    refine ⟨_, rfl, p, _, rfl, .inl (SqL.of e3), _, _, rfl, rfl, _, rfl, ?_⟩
    by_cases c24 : 24 < (Tp.lst [] 0 [] c.cs).length
    · rw [if_pos c24] at q
      refine iteTb (by simp; omega) ⟨_, rfl, sz, fun pt ht => ?_⟩
      have oT := Oth.new (S := []) (o := .tup []) ht
      refine ⟨by simp, fun ad had => ?_⟩
      exact throw_mk TC (pl := []) (.mk upd_same .nil) (by simp) (by simp) (by omega) (by omega) (by decide) (q.oth (o3.trans oT)) ad had
    · rw [if_neg c24] at q
      exact iteFb (by simp; omega) (q _ o3)
end
end Pw
namespace Pw
open PySem PySem.Spec PyProof.Rows L2
abbrev sPlaced : Stmt := topS 14
theorem scPlaced : FnScope ["components", "component", "_", "template"] ["components"] (defScope sPlaced) := ⟨rfl, rfl, rfl, by decide +kernel, rfl, by decide +kernel, by decide +kernel⟩
section
variable {P : Program} {w : World} {K : PySem.W.Frag} {mg : Str → Option Value} {base : Heap}
theorem ok_placed {T f fM : Addr} {fd dM : FuncData} {k : Nat} (F : Fun K "_parts_placed" "_parts_placed" sPlaced f fd)
    (GM : FnOk P w K mg base CX0 k fM dM ["contents"] (spTemplates T)) (bM : Binds K dM ["contents"] []) (kM : PySem.W.keepIn K (.ref fM) = true) (mM : mg "templates" = some (.ref fM)) :
    FnOk P w K mg base CX0 (k + 1) f fd ["components"] (spPlaced T) := by
  refine F.ok scPlaced (fun vs H Q E h => ?_) (fun cdv A outer s H vs Q E' hr h => ?_)
  · obtain ⟨ca, cs, c, comps, rfl, _⟩ := h
    rfl
  obtain ⟨ca, cs, c, comps, rfl, ec, pc, fit, tg, q⟩ := h
  have nd := scPlaced.nd
  refine ⟨_, (pss_one (ps_ret (pe_lc2 (own := [("component", 1), ("_", 2), ("template", 3)]) (vs1 := [2, 3]) (tt := tYes) (wi1 := iTup K (tCall (spTemplates T) [] E0 (tCons (tOp (rIxT K) (tVar 1) (tC (.int 2))) tNil))) (g1 := gTup K 2 (gCons (gName 2) (gCons (gName 3) gNil))) rfl nd (pi_tup (pe_slice sl_tupA (pv 0) po_none (po_some pe_int))) (blkOk_by (N := ["components", "component", "_", "template"]) (sc := defScope sPlaced) (by decide +kernel)) (by decide) (fun _ _ _ _ _ => (pg_name (i := 1) nd rfl (.inl rfl))) (fun _ _ _ _ _ => pts_nil) (fun _ _ _ _ _ => (pi_tup (pe_call GM hr rfl mM kM bM .nil pass0 (pa_cons (pe_ix (r := rIxT K) ix_tup (pv 1) pe_int (fun _ _ => rfl)) pa_nil)))) (fun _ _ _ _ _ => (pg_tup rfl (pgs_cons (pg_name (i := 2) nd rfl (.inl rfl)) (pgs_cons (pg_name (i := 3) nd rfl (.inl rfl)) pgs_nil)))) (fun _ _ _ _ _ => pts_one (pt_cmpR op_eq (pe_ix (r := rIxT K) ix_tup (pv 3) pe_int (fun _ _ => rfl)) pe_str (nomark _))) (fun _ _ _ _ _ => (pe_ix (r := rIxT K) ix_tup (pv 3) pe_int (fun _ _ => rfl)))))), ?_⟩
  obtain ⟨ci, ct, rfl⟩ : ∃ ci ct, cs = ci :: ct := by cases pc with | cons h t => exact ⟨_, _, rfl⟩
  have hci : IsT H c.toT ci := by cases pc with | cons h t => exact h
  obtain ⟨ai, cx, cy, cz, rfl, eci, ecx, tcs, _⟩ := Cm.inv hci
  have cut1 : cutV (V.ref ai :: ct) none (some 1) = [V.ref ai] := by
    unfold cutV
    rw [HT.sIx_none, show ((1 : Int)) = ((1 : Nat) : Int) from rfl, HT.sIx_nat, show min 1 (V.ref ai :: ct).length = 1 by simp]
    rfl
  have fin : ∀ (a1 : Addr) (H1 : Hp), Oth [] H H1 → H1 a1 = some (.tup [.ref ai]) → ∀ D, H1 D = none → SqT K (upd H1 D (.lst [])) a1 [.ref ai] := fun a1 H1 o e D hD => SqT.of ((Oth.new (S := []) hD).tup _ _ e)
  refine ⟨_, rfl, 1, rfl, ca, _, rfl, SqT.of ec, fun whole => ?_, fun nw p hp => ?_⟩
  · have hct : ct = [] := by
      have z := whole.2
      rw [show ((1 : Int)) = ((1 : Nat) : Int) from rfl, HT.sIx_nat, List.length_cons] at z
      exact List.eq_nil_of_length_eq_zero (by omega)
    rw [hct] at ec
    have o1 : Oth [] H H := Oth.refl
    have e1 := ec
    refine ⟨ca, rfl, ⟨_, SqT.of ec⟩, fun D hD => ?_⟩
    have nTD : T ≠ D := by
      obtain ⟨tb, etb, _⟩ := TabG.oth tg o1 (by simp)
      exact ne_of_none etb hD
    have hD0 : H D = none := by
      cases z : H D with
      | none => rfl
      | some u => rw [o1.keep D _ (by simp) z] at hD; cases hD
    have oD := o1.trans (Oth.new (o := .lst []) hD)
    refine lc2_one (P1 := fun H7 => H7 ca = some (.tup [.ref ai]) ∧ H7 D = some (.lst ((partsIn (Tp.lst [] 0 [] c.cs)).map natV)) ∧ Oth [T] H H7 ∧ GxR.TabG H7 T) (fin _ _ o1 e1 D hD) ⟨rfl, ?_⟩ (fun H7 h => ⟨SqT.of h.1, q D H7 hD0 h.2.2.1 h.2.2.2 h.2.1⟩)
    refine ⟨_, rfl, ai, _, _, _, rfl, rfl, SqT.of (oD.tup _ _ eci), at2, c.cs, _, rfl, tcs.oth oD, fit.deps, Nat.le_trans fit.cnts (by decide), TabG.oth tg oD (by simp), fun r H6 it6 o6 tg6 => ?_⟩
    obtain ⟨ar, xs, rfl, er, pr⟩ := it6.inv
    have lxs : xs.length = (Tp.lst [] 0 [] c.cs).length := by rw [(paired_get pr).1, List.length_map]
    have lxs2 : xs.length ≤ 1700 := by rw [lxs, Tp.lst_len]; exact fit.cnts
    have hD6 : H6 D = some (.lst []) := o6.keep D _ (by simp [nTD.symm]) upd_same
    refine ⟨ar, rfl, ⟨xs, SqT.of er⟩, ?_⟩
    rw [← upd_self hD6]
    refine lc_tup (xs := xs)
      (fun j H7 => H7 ar = some (.tup xs) ∧ Paired (IsT H7) ((Tp.lst [] 0 [] c.cs).map pairT') xs ∧ H7 D = some (.lst ((partsIn ((Tp.lst [] 0 [] c.cs).take j)).map natV)) ∧ Oth [D] H6 H7)
      (by rw [upd_self hD6]; exact ⟨er, pr, hD6, Oth.refl⟩) (fun j H7 _ hW => SqT.of hW.1) (fun j y H7 hy hW => ?_) (fun H7 hW => ?_)
    · obtain ⟨e7, p7, d7, o7⟩ := hW
      have hj : j < xs.length := (List.getElem?_eq_some_iff.mp hy).1
      have hj2 : j < (Tp.lst [] 0 [] c.cs).length := by omega
      have gr : (Tp.lst [] 0 [] c.cs)[j]? = some (Tp.lst [] 0 [] c.cs)[j] := List.getElem?_eq_getElem hj2
      generalize (Tp.lst [] 0 [] c.cs)[j] = rw at gr
      have iy := (paired_get p7).2 j _ y (by rw [List.getElem?_map, gr]; rfl) hy
      obtain ⟨ay, z1, z2, rfl, ey, i1, i2⟩ := IsT.inv2 iy
      have pl := partsIn_len ((Tp.lst [] 0 [] c.cs).take j)
      rw [List.length_take] at pl
      have e8 : partsIn ((Tp.lst [] 0 [] c.cs).take (j + 1)) = partsIn ((Tp.lst [] 0 [] c.cs).take j) ++ partIn rw.tp := by
        rw [take_succ gr, partsIn_app]
        show _ ++ (partIn rw.tp ++ []) = _
        rw [List.append_nil]
      refine ⟨ay, _, rfl, SqT.of ey, rfl, _, _, rfl, _, _, rfl, rfl, rfl, ?_⟩
      by_cases hk : ∃ n, rw.tp = .part n
      · obtain ⟨n, hk⟩ := hk
        rw [hk] at i2 e8
        obtain ⟨at', _, w1, rfl, hat, p0, p1'⟩ := IsT.inv2 i2
        obtain rfl := p0.of_str
        obtain rfl := p1'.of_int
        refine ⟨_, rfl, at', _, _, _, rfl, rfl, SqT.of hat, at0, rfl, _, rfl, iteTd rfl ⟨_, rfl, at', _, _, _, rfl, rfl, SqT.of hat, at1, _, d7, Nat.lt_of_le_of_lt (by rw [List.length_map]; omega : _ ≤ 100000) (by decide), ?_⟩⟩
        have op : Oth [D] H7 (upd H7 D (.lst ((partsIn ((Tp.lst [] 0 [] c.cs).take j)).map natV ++ [natV n]))) := Oth.put (by simp) d7
        exact ⟨op.tup _ _ e7, paired_oth p7 op, by rw [e8, List.map_append]; exact upd_same, o7.trans op⟩
      · have hk2 : partIn rw.tp = [] := by
          cases hh : rw.tp with
          | part n => exact absurd ⟨n, hh⟩ hk
          | _ => rfl
        have hk3 : rw.tp.kind ≠ "part" := by
          cases hh : rw.tp with
          | part n => exact absurd ⟨n, hh⟩ hk
          | _ => simp only [Tp.kind]; decide
        obtain ⟨at', r', rfl, hat⟩ := Tp.kindAt _ i2
        refine ⟨_, rfl, at', _, _, _, rfl, rfl, SqT.of hat, at0, rfl, _, rfl, iteFd (fun z => hk3 (by injection z)) ?_⟩
        exact ⟨e7, p7, by rw [e8, hk2, List.append_nil]; exact d7, o7⟩
    · obtain ⟨e7, p7, d7, o7⟩ := hW
      rw [lxs, List.take_length] at d7
      have o67 : Oth [T, D] H6 H7 := o7.mono (by simp)
      have oH7 : Oth [T] H H7 := Oth.drop2 (((oD.mono (by simp)).trans ((o6.mono (by simp)).trans o67))) hD0
      exact ⟨o7.tup _ _ (o6.tup _ _ ((Oth.new (S := []) hD).tup _ _ e1)), d7, oH7, TabG.oth tg6 o7 (by simp [nTD])⟩
  · rw [cut1]
    have o1 : Oth [] H (upd H p (.tup [.ref ai])) := Oth.new hp
    have e1 : upd H p (.tup [.ref ai]) p = some (.tup [.ref ai]) := upd_same
    refine ⟨p, rfl, ⟨_, SqT.of e1⟩, fun D hD => ?_⟩
    have nTD : T ≠ D := by
      obtain ⟨tb, etb, _⟩ := TabG.oth tg o1 (by simp)
      exact ne_of_none etb hD
    have hD0 : H D = none := by
      cases z : H D with
      | none => rfl
      | some u => rw [o1.keep D _ (by simp) z] at hD; cases hD
    have oD := o1.trans (Oth.new (o := .lst []) hD)
    refine lc2_one (P1 := fun H7 => H7 p = some (.tup [.ref ai]) ∧ H7 D = some (.lst ((partsIn (Tp.lst [] 0 [] c.cs)).map natV)) ∧ Oth [T] H H7 ∧ GxR.TabG H7 T) (fin _ _ o1 e1 D hD) ⟨rfl, ?_⟩ (fun H7 h => ⟨SqT.of h.1, q D H7 hD0 h.2.2.1 h.2.2.2 h.2.1⟩)
    refine ⟨_, rfl, ai, _, _, _, rfl, rfl, SqT.of (oD.tup _ _ eci), at2, c.cs, _, rfl, tcs.oth oD, fit.deps, Nat.le_trans fit.cnts (by decide), TabG.oth tg oD (by simp), fun r H6 it6 o6 tg6 => ?_⟩
    obtain ⟨ar, xs, rfl, er, pr⟩ := it6.inv
    have lxs : xs.length = (Tp.lst [] 0 [] c.cs).length := by rw [(paired_get pr).1, List.length_map]
    have lxs2 : xs.length ≤ 1700 := by rw [lxs, Tp.lst_len]; exact fit.cnts
    have hD6 : H6 D = some (.lst []) := o6.keep D _ (by simp [nTD.symm]) upd_same
    refine ⟨ar, rfl, ⟨xs, SqT.of er⟩, ?_⟩
    rw [← upd_self hD6]
    refine lc_tup (xs := xs)
      (fun j H7 => H7 ar = some (.tup xs) ∧ Paired (IsT H7) ((Tp.lst [] 0 [] c.cs).map pairT') xs ∧ H7 D = some (.lst ((partsIn ((Tp.lst [] 0 [] c.cs).take j)).map natV)) ∧ Oth [D] H6 H7)
      (by rw [upd_self hD6]; exact ⟨er, pr, hD6, Oth.refl⟩) (fun j H7 _ hW => SqT.of hW.1) (fun j y H7 hy hW => ?_) (fun H7 hW => ?_)
    · obtain ⟨e7, p7, d7, o7⟩ := hW
      have hj : j < xs.length := (List.getElem?_eq_some_iff.mp hy).1
      have hj2 : j < (Tp.lst [] 0 [] c.cs).length := by omega
      have gr : (Tp.lst [] 0 [] c.cs)[j]? = some (Tp.lst [] 0 [] c.cs)[j] := List.getElem?_eq_getElem hj2
      generalize (Tp.lst [] 0 [] c.cs)[j] = rw at gr
      have iy := (paired_get p7).2 j _ y (by rw [List.getElem?_map, gr]; rfl) hy
      obtain ⟨ay, z1, z2, rfl, ey, i1, i2⟩ := IsT.inv2 iy
      have pl := partsIn_len ((Tp.lst [] 0 [] c.cs).take j)
      rw [List.length_take] at pl
      have e8 : partsIn ((Tp.lst [] 0 [] c.cs).take (j + 1)) = partsIn ((Tp.lst [] 0 [] c.cs).take j) ++ partIn rw.tp := by
        rw [take_succ gr, partsIn_app]
        show _ ++ (partIn rw.tp ++ []) = _
        rw [List.append_nil]
      refine ⟨ay, _, rfl, SqT.of ey, rfl, _, _, rfl, _, _, rfl, rfl, rfl, ?_⟩
      by_cases hk : ∃ n, rw.tp = .part n
      · obtain ⟨n, hk⟩ := hk
        rw [hk] at i2 e8
        obtain ⟨at', _, w1, rfl, hat, p0, p1'⟩ := IsT.inv2 i2
        obtain rfl := p0.of_str
        obtain rfl := p1'.of_int
        refine ⟨_, rfl, at', _, _, _, rfl, rfl, SqT.of hat, at0, rfl, _, rfl, iteTd rfl ⟨_, rfl, at', _, _, _, rfl, rfl, SqT.of hat, at1, _, d7, Nat.lt_of_le_of_lt (by rw [List.length_map]; omega : _ ≤ 100000) (by decide), ?_⟩⟩
        have op : Oth [D] H7 (upd H7 D (.lst ((partsIn ((Tp.lst [] 0 [] c.cs).take j)).map natV ++ [natV n]))) := Oth.put (by simp) d7
        exact ⟨op.tup _ _ e7, paired_oth p7 op, by rw [e8, List.map_append]; exact upd_same, o7.trans op⟩
      · have hk2 : partIn rw.tp = [] := by
          cases hh : rw.tp with
          | part n => exact absurd ⟨n, hh⟩ hk
          | _ => rfl
        have hk3 : rw.tp.kind ≠ "part" := by
          cases hh : rw.tp with
          | part n => exact absurd ⟨n, hh⟩ hk
          | _ => simp only [Tp.kind]; decide
        obtain ⟨at', r', rfl, hat⟩ := Tp.kindAt _ i2
        refine ⟨_, rfl, at', _, _, _, rfl, rfl, SqT.of hat, at0, rfl, _, rfl, iteFd (fun z => hk3 (by injection z)) ?_⟩
        exact ⟨e7, p7, by rw [e8, hk2, List.append_nil]; exact d7, o7⟩
    · obtain ⟨e7, p7, d7, o7⟩ := hW
      rw [lxs, List.take_length] at d7
      have o67 : Oth [T, D] H6 H7 := o7.mono (by simp)
      have oH7 : Oth [T] H H7 := Oth.drop2 (((oD.mono (by simp)).trans ((o6.mono (by simp)).trans o67))) hD0
      exact ⟨o7.tup _ _ (o6.tup _ _ ((Oth.new (S := []) hD).tup _ _ e1)), d7, oH7, TabG.oth tg6 o7 (by simp [nTD])⟩
end
end Pw
namespace Pw
open PySem PySem.Spec PyProof.Rows L2
abbrev sParts : Stmt := topS 13
theorem scParts : FnScope ["program", "_", "components", "parts", "placed", "part", "component"] ["program"] (defScope sParts) := ⟨rfl, rfl, rfl, by decide +kernel, rfl, by decide +kernel, by decide +kernel⟩
abbrev sCheck : Stmt := topS 6
theorem scCheck : FnScope ["program", "own"] ["program"] (defScope sCheck) := ⟨rfl, rfl, rfl, by decide +kernel, rfl, by decide +kernel, by decide +kernel⟩
section
variable {P : Program} {w : World} {K : PySem.W.Frag} {mg : Str → Option Value} {base : Heap}
theorem ok_parts {f fQ fI C T : Addr} {fd dQ dF : FuncData} {k : Nat} (F : Fun K "_check_parts" "_check_parts" sParts f fd) (m_len : mg "len" = none) (m_enumerate : mg "enumerate" = none)
    (GQ : FnOk P w K mg base CX0 (k + 1) fQ dQ ["components"] (spPlaced T)) (bQ : Binds K dQ ["components"] []) (kQ : PySem.W.keepIn K (.ref fQ) = true) (mQ : mg "_parts_placed" = some (.ref fQ))
    (TC : FaultC K C fI) (GF : FnOk P w K mg base CX0 k fI dF ["self", "component", "place", "reason"] (spInit K C)) (bF : Binds K dF ["self", "component", "place", "reason"] []) (mF : mg "ProgramFault" = some (.ref C)) :
    FnOk P w K mg base (L2N.CX P w) (k + 1 + 1) f fd ["program"] (spParts C T) := by
  refine Pw.Fun.okN F scParts (fun vs H Q E h => ?_) (fun cdv A outer s H vs Q E hr h => ?_)
  · obtain ⟨g, vp, rfl, _⟩ := h
    rfl
  obtain ⟨g, vp, rfl, hg, fit, hne, tg, q⟩ := h
  have nd := scParts.nd
  refine ⟨_, (pss_cons (ps_asg (pv 0) (pg_tup rfl (pgs_cons (pg_name (i := 1) nd rfl (.inl rfl)) (pgs_cons (pg_name (i := 2) nd rfl (.inl rfl)) (pgs_cons (pg_name (i := 1) nd rfl (.inl rfl)) (pgs_cons (pg_name (i := 3) nd rfl (.inl rfl)) pgs_nil))))))
  (pss_cons (ps_set (i := 4) nd rfl (.inl rfl) (pe_call GQ hr rfl mQ kQ bQ .nil pass0 (pa_cons (pv 2) pa_nil)))
  (pss_one (ps_for (passes_of rfl) rfl (pi_enumT (by rfl) m_enumerate (pa_cons (pv 3) pa_nil)) (pg_tup rfl (pgs_cons (pg_name (i := 5) nd rfl (.inl rfl)) (pgs_cons (pg_name (i := 6) nd rfl (.inl rfl)) pgs_nil)))
  (pss_cons (ps_if (pt_not (pt_chain op_lt op_lt pe_int (pv 6) (pe_callB call_len_seq (by rfl) m_len PySem.boot_len (pa_cons (pv 2) pa_nil))))
  (pss_one (L2N.ps_raise rfl (L2N.takes_of rfl rfl rfl rfl) (pmk_fault TC GF hr bF .nil (by rfl) mF (pa_cons (pe_un un_neg pe_int) (pa_cons (pe_tup (pa_cons (pv 5) pa_nil)) (pa_cons pe_str pa_nil))))))
  pss_nil)
  (pss_one (ps_if (pt_cmpR op_notIn_seq (pv 5) (pv 4) (by rfl))
  (pss_one (L2N.ps_raise rfl (L2N.takes_of rfl rfl rfl rfl) (pmk_fault TC GF hr bF .nil (by rfl) mF (pa_cons (pe_un un_neg pe_int) (pa_cons (pe_tup (pa_cons (pv 5) pa_nil)) (pa_cons pe_str pa_nil))))))
  pss_nil))))))), ?_⟩
  obtain ⟨a, cc, s', qq, cs, rfl, ea, ec, pc, es, eq⟩ := Pg.inv hg
  have lcs : cs.length = g.comps.length := by rw [(paired_get pc).1, List.length_map]
  have f10 := fit.2.1
  have p10 := fit.2.2
  obtain ⟨c, comps, hcomps⟩ : ∃ c comps, g.comps = c :: comps := by
    cases h : g.comps with
    | nil => exact absurd h hne
    | cons c r => exact ⟨c, r, rfl⟩
  have hpl : placedIn g = partsIn (Tp.lst [] 0 [] c.cs) := by unfold placedIn; rw [hcomps]
  have pc2 := pc
  rw [hcomps] at pc2
  have fc := fit.1 c (by rw [hcomps]; exact List.mem_cons_self)
  refine ⟨_, rfl, a, _, rfl, SqT.of ea, rfl, _, _, rfl, _, _, rfl, _, _, rfl, _, _, rfl, rfl, ?_⟩
  refine ⟨_, rfl, cc, cs, c, comps, rfl, ec, pc2, fc, tg, fun p H1 hp o1 tg1 e1 => ?_⟩
  rw [← hpl] at e1
  have nTp : T ≠ p := by
    obtain ⟨tb, etb, _⟩ := tg
    exact ne_of_none etb hp
  have npl : (placedIn g).length ≤ 1700 := by
    have := partsIn_len (Tp.lst [] 0 [] c.cs)
    rw [Tp.lst_len] at this
    rw [hpl]
    have := fc.cnts
    omega
  refine ⟨_, rfl, qq, _, rfl, SqT.of (o1.tup _ _ eq), for_enumT
    (fun i σ H2 => ∃ (x1 x5 x6 : Option V), σ = [some (.ref a), x1, some (.ref cc), some (.ref qq), some (.ref p), x5, x6] ∧ Oth [T] H H2 ∧ GxR.TabG H2 T ∧ H2 p = some (.lst ((placedIn g).map natV)) ∧
      partsFault g.comps.length (placedIn g) i (g.parts.drop i) = partsFault g.comps.length (placedIn g) 0 g.parts)
    ⟨_, none, none, rfl, o1, tg1, e1, rfl⟩ (fun i σ H2 _ hW => ?_) (fun i x σ H2 Tt hx hW hT => ?_) (fun σ H2 hW => ?_)⟩
  · obtain ⟨_, _, _, _, o2, _⟩ := hW
    exact SqT.of (o2.tup _ _ eq)
  · obtain ⟨x1, x5, x6, rfl, o2, tg2, e2, hf⟩ := hW
    rw [List.getElem?_map] at hx
    obtain ⟨n, gn, rfl⟩ : ∃ u, g.parts[i]? = some u ∧ natV u = x := by
      cases z : g.parts[i]? with
      | none => rw [z] at hx; cases hx
      | some u => rw [z] at hx; exact ⟨u, rfl, Option.some.inj hx⟩
    have hi : i < g.parts.length := (List.getElem?_eq_some_iff.mp gn).1
    rw [partsFault_at gn] at hf
    have oT := Oth.new (S := [T]) (o := .tup [.int ((i : Nat) : Int), natV n]) hT
    have tgT := TabG.oth tg2 (Oth.new (S := []) (o := .tup [.int ((i : Nat) : Int), natV n]) hT) (by simp)
    have eT := (Oth.new (S := []) (o := .tup [.int ((i : Nat) : Int), natV n]) hT).keep p _ (by simp) e2
    have o3 := o2.trans oT
    refine ⟨Tt, _, rfl, SqT.of upd_same, rfl, _, _, rfl, _, _, rfl, rfl, ?_⟩
    have raise : ∀ (re : Str), re.length ≤ 1000 → partsFault g.comps.length (placedIn g) 0 g.parts = some (i, re) → ∀ t, (upd H2 Tt (.tup [.int ((i : Nat) : Int), natV n])) t = none → ∀ (ad : Addr), (upd (upd H2 Tt (.tup [.int ((i : Nat) : Int), natV n])) t (.tup [.int ((i : Nat) : Int)])) ad = none →
        spInit K C (.ref ad :: ([.int (-1), .ref t, .str re] ++ [])) (upd (upd (upd H2 Tt (.tup [.int ((i : Nat) : Int), natV n])) t (.tup [.int ((i : Nat) : Int)])) ad (exo ad C none))
          (fun v H2' => v = .non ∧ ∃ (d : Addr) (fs : List (Str × V)), H2' ad = some (exo ad C (some d)) ∧ H2' d = some (exd d fs) ∧ (upd (upd H2 Tt (.tup [.int ((i : Nat) : Int), natV n])) t (.tup [.int ((i : Nat) : Int)])) d = none ∧ E (.ref C) (some d) (upd (L2.del H2' ad) d (.xd fs))) (fun _ _ _ => False) := fun re hre hpf t ht ad had => by
      rw [hpf] at q
      exact throw_mk TC (pl := [((i : Nat) : Int)]) (.mkInts upd_same) (by simp; omega) (by simp) (by omega) (by omega) hre ((q.oth (o3.trans (Oth.new ht))).weak (by simp)) ad had
    by_cases c1 : 0 < n
    · by_cases c2 : n < g.comps.length
      · refine ⟨_, rfl, _, _, rfl, rfl, _, rfl, iteTb (by simp; omega) ?_⟩
        refine ⟨_, rfl, cc, _, rfl, .inr (SqT.of (o3.tup _ _ ec)), _, _, rfl, rfl, _, rfl, iteFb (by simp; omega) ?_⟩
        rw [if_pos ⟨c1, c2⟩] at hf
        refine ⟨_, rfl, _, rfl, p, _, rfl, .inl (SqL.of eT), rfl, flat_nats _, _, rfl, ?_⟩
        by_cases c3 : i ∈ placedIn g
        · rw [if_pos c3] at hf
          exact iteFb (by show (!inV (natV i) _) = false; rw [inV_nats, decide_eq_true c3]; rfl) ⟨_, _, _, rfl, o3, tgT, eT, hf⟩
        · rw [if_neg c3] at hf
          refine iteTb (by show (!inV (natV i) _) = true; rw [inV_nats, decide_eq_false c3]; rfl) ?_
          exact ⟨_, rfl, _, rfl, sz, fun t ht => ⟨by simp, fun ad had => raise _ (by decide) hf.symm t ht ad had⟩⟩
      · refine ⟨_, rfl, _, _, rfl, rfl, _, rfl, iteTb (by simp; omega) ?_⟩
        refine ⟨_, rfl, cc, _, rfl, .inr (SqT.of (o3.tup _ _ ec)), _, _, rfl, rfl, _, rfl, iteTb (by simp; omega) ?_⟩
        rw [if_neg fun z => c2 z.2] at hf
        exact ⟨_, rfl, _, rfl, sz, fun t ht => ⟨by simp, fun ad had => raise _ (by decide) hf.symm t ht ad had⟩⟩
    · refine ⟨_, rfl, _, _, rfl, rfl, _, rfl, iteFb (by simp; omega) ⟨_, rfl, iteT ?_⟩⟩
      rw [if_neg fun z => c1 z.1] at hf
      exact ⟨_, rfl, _, rfl, sz, fun t ht => ⟨by simp, fun ad had => raise _ (by decide) hf.symm t ht ad had⟩⟩
  · obtain ⟨x1, x5, x6, rfl, o2, tg2, e2, hf⟩ := hW
    rw [List.length_map, List.drop_length] at hf
    simp only [partsFault] at hf
    rw [← hf] at q
    exact q _ o2 tg2
theorem ok_check {f fU fV C T : Addr} {fd dU dV : FuncData} {k : Nat} (F : Fun K "check" "check" sCheck f fd) (m_len : mg "len" = none) (m_range : mg "range" = none)
    (GU : FnOk P w K mg base (L2N.CX P w) k fU dU ["program", "own"] (spComp C)) (bU : Binds K dU ["program", "own"] []) (kU : PySem.W.keepIn K (.ref fU) = true) (mU : mg "_check_component" = some (.ref fU))
    (GV : FnOk P w K mg base (L2N.CX P w) k fV dV ["program"] (spParts C T)) (bV : Binds K dV ["program"] []) (kV : PySem.W.keepIn K (.ref fV) = true) (mV : mg "_check_parts" = some (.ref fV)) :
    FnOk P w K mg base (L2N.CX P w) (k + 1) f fd ["program"] (spCheck C T) := by
  refine Pw.Fun.okN F scCheck (fun vs H Q E h => ?_) (fun cdv A outer s H vs Q E hr h => ?_)
  · obtain ⟨g, vp, rfl, _⟩ := h
    rfl
  obtain ⟨g, vp, rfl, hg, fit, hne, tg, q⟩ := h
  have nd := scCheck.nd
  refine ⟨_, (pss_cons (ps_for (passes_of rfl) rfl (pi_range1 (by rfl) m_range (pa_cons (pe_callB call_len_seq (by rfl) m_len PySem.boot_len (pa_cons (pe_ix ix_tup (pv 0) pe_int (fun _ _ => rfl)) pa_nil)) pa_nil)) (pg_name (i := 1) nd rfl (.inl rfl))
  (pss_one (ps_expr (pe_call GU hr rfl mU kU bU .nil (L2N.passes_call (W := fun c d _ H => E c d H) (L2N.takes_of rfl rfl rfl rfl) fun _ _ _ _ h => h) (pa_cons (pv 0) (pa_cons (pv 1) pa_nil))))))
  (pss_one (ps_expr (pe_call GV hr rfl mV kV bV .nil (L2N.passes_call (W := fun c d _ H => E c d H) (L2N.takes_of rfl rfl rfl rfl) fun _ _ _ _ h => h) (pa_cons (pv 0) pa_nil))))), ?_⟩
  obtain ⟨a, cc, s', qq, cs, rfl, ea, ec, pc, es, eq⟩ := Pg.inv hg
  have lcs : cs.length = g.comps.length := by rw [(paired_get pc).1, List.length_map]
  have f10 := fit.2.1
  refine ⟨_, rfl, a, _, _, _, rfl, rfl, SqT.of ea, at1, cc, _, rfl, .inr (SqT.of ec), _, rfl, by omega, by omega, for_range (lo := 0) (n := ((cs.length : Nat) : Int).toNat)
    (fun i σ H2 => ∃ (x1 : Option V), σ = [some (.ref a), x1] ∧ Oth [] H H2 ∧ compsFault g.comps.length g.parts.length i (g.comps.drop i) = compsFault g.comps.length g.parts.length 0 g.comps)
    ⟨none, rfl, Oth.refl, rfl⟩ (fun i σ H2 hi hW => ?_) (fun σ H2 hW => ?_)⟩
  · obtain ⟨x1, rfl, o2, hf⟩ := hW
    have hi2 : i < g.comps.length := by omega
    obtain ⟨c, gc⟩ : ∃ c, g.comps[i]? = some c := ⟨g.comps[i], List.getElem?_eq_getElem hi2⟩
    rw [compsFault_at gc] at hf
    rw [show (0 : Int) + (i : Int) = (i : Int) from Int.zero_add _]
    refine ⟨_, rfl, _, rfl, g, _, i, c, rfl, hg.oth o2, fit, gc, ?_⟩
    cases hc : compFault g.comps.length g.parts.length i c.cs with
    | inl fl =>
      rw [hc] at hf
      dsimp only at hf ⊢
      unfold progFault at q
      rw [← hf] at q
      exact (q.oth (o2.mono (by simp))).weak (by simp)
    | inr sn =>
      rw [hc] at hf
      dsimp only at hf ⊢
      exact fun H' o' => ⟨_, rfl, o2.trans o', hf⟩
  · obtain ⟨x1, rfl, o2, hf⟩ := hW
    rw [show ((cs.length : Nat) : Int).toNat = g.comps.length by omega, List.drop_length] at hf
    simp only [compsFault] at hf
    unfold progFault at q
    rw [← hf] at q
    refine ⟨_, rfl, g, _, rfl, hg.oth o2, fit, hne, TabG.oth tg o2 (by simp), ?_⟩
    cases hp : partsFault g.comps.length (placedIn g) 0 g.parts with
    | some fl =>
      rw [hp] at q
      exact q.oth (o2.mono (by simp))
    | none =>
      rw [hp] at q
      exact fun H' o' tg' => q H' ((o2.mono (by simp)).trans o') tg'
end
end Pw
namespace Pw
open PySem PySem.Spec PyProof.Rows L2
abbrev sExpr : Stmt := topS 20
abbrev sKey : Stmt := topS 21
theorem scExpr : FnScope ["box", "depth", "kind", "leaves", "one", "two"] ["box", "depth"] (defScope sExpr) := ⟨rfl, rfl, rfl, by decide +kernel, rfl, by decide +kernel, by decide +kernel⟩
theorem scKey : FnScope ["box"] ["box"] (defScope sKey) := ⟨rfl, rfl, rfl, by decide +kernel, rfl, by decide +kernel, by decide +kernel⟩
section
variable {P : Program} {w : World} {K : PySem.W.Frag} {mg : Str → Option Value} {base : Heap}
theorem ok_expr {f g : Addr} {fd gd : FuncData} {k n : Nat} (F : Fun K "_law_expr" "_law_expr" sExpr f fd)
    (GE : FnOk P w K mg base CX0 k f fd ["box", "depth"] (spExpr1 n)) (bE : Binds K fd ["box", "depth"] []) (kE : PySem.W.keepIn K (.ref f) = true) (mE : mg "_law_expr" = some (.ref f))
    (GR : FnOk P w K mg base CX0 k g gd ["box", "many"] spDrawX) (bR : Binds K gd ["box", "many"] []) (kR : PySem.W.keepIn K (.ref g) = true) (mR : mg "_law_draw" = some (.ref g)) (m_int : mg "int" = none) :
    FnOk P w K mg base CX0 (k + 1) f fd ["box", "depth"] (spExpr1 (n + 1)) := by
  refine F.ok scExpr (fun vs H Q E h => ?_) (fun cdv A outer s H vs Q E' hr h => ?_)
  · obtain ⟨b, dg, pl, d, rfl, _⟩ := h
    rfl
  obtain ⟨b, dg, pl, d, rfl, hdn, bx, q⟩ := h
  have nd := scExpr.nd
  refine ⟨_, (pss_cons (ps_set (i := 2) nd rfl (.inl rfl) (pe_call GR hr rfl mR kR bR .nil pass0 (pa_cons (pv 0) (pa_cons pe_int pa_nil))))
  (pss_cons (ps_if (PW.pt (pw_or (pt_cmpR op_eq (pv 1) pe_int (nomark _)) (pw_or1 (pt_cmpR op_lt (pv 2) pe_int (nomark _)))))
  (pss_cons (ps_set (i := 3) nd rfl (.inl rfl) (pe_lst (pa_cons (pe_tup (pa_cons pe_str (pa_cons pe_int pa_nil))) (pa_cons (pe_tup (pa_cons pe_str (pa_cons pe_int pa_nil))) (pa_cons (pe_tup (pa_cons pe_str (pa_cons pe_int pa_nil))) (pa_cons (pe_tup (pa_cons pe_str (pa_cons pe_int pa_nil))) (pa_cons (pe_tup (pa_cons pe_str (pa_cons pe_int pa_nil))) (pa_cons (pe_tup (pa_cons pe_str pa_nil)) pa_nil))))))))
  (pss_one (ps_ret (pe_ix ix_list (pe_op op_cat (pe_lst (pa_cons (pe_tup (pa_cons pe_str (pa_cons (pe_call GR hr rfl mR kR bR .nil pass0 (pa_cons (pv 0) (pa_cons pe_int pa_nil))) pa_nil))) pa_nil)) (pv 3)) (pe_op op_mod (pe_callTy call_int1 (by rfl) m_int bo_int (pa_cons (pv 2) pa_nil)) pe_int) (fun _ _ => rfl)))))
  pss_nil)
  (pss_cons (ps_set (i := 4) nd rfl (.inl rfl) (pe_call GE hr rfl mE kE bE .nil pass0 (pa_cons (pv 0) (pa_cons (pe_op op_sub (pv 1) pe_int) pa_nil))))
  (pss_cons (ps_set (i := 5) nd rfl (.inl rfl) (pe_call GE hr rfl mE kE bE .nil pass0 (pa_cons (pv 0) (pa_cons (pe_op op_sub (pv 1) pe_int) pa_nil))))
  (pss_cons (ps_if (pt_cmpR op_eq (pv 2) pe_int (nomark _))
  (pss_one (ps_ret (pe_tup (pa_cons pe_str (pa_cons (pv 4) (pa_cons (pv 5) (pa_cons (pe_call GE hr rfl mE kE bE .nil pass0 (pa_cons (pv 0) (pa_cons (pe_op op_sub (pv 1) pe_int) pa_nil))) pa_nil)))))))
  pss_nil)
  (pss_one (ps_ret (pe_tup (pa_cons (pe_ix ix_list (pe_lst (pa_cons pe_str (pa_cons pe_str (pa_cons pe_str (pa_cons pe_str pa_nil))))) (pe_op op_mod (pe_callTy call_int1 (by rfl) m_int bo_int (pa_cons (pv 2) pa_nil)) pe_int) (fun _ _ => rfl)) (pa_cons (pv 4) (pa_cons (pv 5) pa_nil))))))))))), ?_⟩
  refine ⟨_, rfl, b, dg, pl, _, rfl, by decide, bx, fun kind H0 k0 k1 bx0 o0 => ?_⟩
  refine ⟨_, rfl, rfl, _, rfl, ?_⟩
  refine (fun leaf => ite2 (fun c => iteT leaf) (fun c => ⟨_, rfl, _, _, rfl, rfl, _, rfl, ite2 (fun c2 => leaf) (fun c2 => ?node)⟩)) ?leaf
  case node =>
    have hk6 : ¬ kind < 7 := of_decide_eq_false (Bool.eq_false_iff.mpr c2)
    obtain ⟨d', rfl⟩ : ∃ d', d = d' + 1 := by
      cases d with
      | zero => exact absurd (show decide (V.int ((0 : Nat) : Int) = V.int 0) = true from decide_eq_true rfl) c
      | succ d' => exact ⟨d', rfl⟩
    have hd' : ([V.ref b, V.int (((d' + 1 : Nat) : Int) - 1)] : List V) = [V.ref b, V.int (d' : Int)] := by rw [show ((d' + 1 : Nat) : Int) - 1 = (d' : Int) by omega]
    refine ⟨_, rfl, _, rfl, _, _, rfl, rfl, b, dg, pl, d', hd', by omega, bx0, fun e1 v1 H1 d1 z1 t1 bx1 o1 => ?_⟩
    refine ⟨_, rfl, _, rfl, _, _, rfl, rfl, b, dg, pl, d', hd', by omega, bx1, fun e2 v2 H2 d2 z2 t2 bx2 o2 => ?_⟩
    refine ⟨_, rfl, rfl, _, rfl, ite2 (fun c3 => ?_) (fun c3 => ?_)⟩
    · refine ⟨_, rfl, _, rfl, _, rfl, _, rfl, _, _, rfl, rfl, b, dg, pl, d', hd', by omega, bx2, fun e3 v3 H3 d3 z3 t3 bx3 o3 => ⟨sz, fun p hp => ?_⟩⟩
      have on : Oth [b] H3 (upd H3 p (.tup [.str "if", v1, v2, v3])) := Oth.new hp
      refine q (.ite e1 e2 e3) _ _ (by simp only [E.depth]; omega) (thin_if z1 z2 z3) ?_ (bx3.new hp) (o0.trans (o1.trans (o2.trans (o3.trans on))))
      exact IsT.mk4 upd_same (.str _) (((t1.oth o2).oth o3).oth on) ((t2.oth o3).oth on) (t3.oth on)
    · have fin : ∀ (x : Str) (mk : E → E → E), (∀ a b, (mk a b).depth = max a.depth b.depth + 1) → (∀ a b, (mk a b).toT = .tup [.str x, a.toT, b.toT]) → x.cps.toList.all (fun c => decide (c < 16 ^ 8)) = true → x.cps.size ≤ 5 → ∀ H3 p, Oth [b] H2 H3 → Bx H3 b dg pl → H3 p = none →
          Q (.ref p) (upd H3 p (.tup [.str x, v1, v2])) := fun x mk h1 h4 hx hz H3 p o3 bx3 hp => by
        have on : Oth [b] H3 (upd H3 p (.tup [.str x, v1, v2])) := Oth.new hp
        refine q (mk e1 e2) _ _ (by rw [h1]; omega) (thin_two (h4 _ _) z1 z2 hx hz) ?_ (bx3.new hp) (o0.trans (o1.trans (o2.trans (o3.trans on))))
        rw [h4]
        exact IsT.mk3 upd_same (.str _) (((t1.oth o2).oth o3).oth on) ((t2.oth o3).oth on)
      have cs : kind % 4 = 0 ∨ kind % 4 = 1 ∨ kind % 4 = 2 ∨ kind % 4 = 3 := by omega
      refine ⟨sz, fun l hl => ⟨_, rfl, .inl ⟨_, rfl, _, _, rfl, rfl, (by show (0 : Int) < 4; decide), l, _, _, ?zzv, rfl, rfl, SqL.of upd_same, ?zza, ?zzb⟩⟩⟩
      case zzv => exact if kind % 4 = 0 then .str "plus" else if kind % 4 = 1 then .str "minus" else if kind % 4 = 2 then .str "same" else .str "less"
      case zza => rcases cs with e | e | e | e <;> rw [e] <;> first | exact at0 | exact at1 | exact at2 | exact at3
      case zzb =>
        refine ⟨_, rfl, _, rfl, sz, fun p hp => ?_⟩
        have ol : Oth [b] H2 (upd H2 l (.lst [.str "plus", .str "minus", .str "same", .str "less"])) := Oth.new hl
        rcases cs with e | e | e | e
        · rw [if_pos e]; exact fin "plus" .plus (fun _ _ => rfl) (fun _ _ => rfl) (by decide) (by decide) _ p ol (bx2.new hl) hp
        · rw [if_neg (by omega), if_pos e]; exact fin "minus" .minus (fun _ _ => rfl) (fun _ _ => rfl) (by decide) (by decide) _ p ol (bx2.new hl) hp
        · rw [if_neg (by omega), if_neg (by omega), if_pos e]; exact fin "same" .same (fun _ _ => rfl) (fun _ _ => rfl) (by decide) (by decide) _ p ol (bx2.new hl) hp
        · rw [if_neg (by omega), if_neg (by omega), if_neg (by omega)]; exact fin "less" .less (fun _ _ => rfl) (fun _ _ => rfl) (by decide) (by decide) _ p ol (bx2.new hl) hp
  case leaf =>
    refine ⟨sz, fun p1 hp1 => ⟨sz, fun p2 hp2 => ⟨sz, fun p3 hp3 => ⟨sz, fun p4 hp4 => ⟨sz, fun p5 hp5 => ⟨sz, fun p6 hp6 => ⟨sz, fun l hl => ?_⟩⟩⟩⟩⟩⟩⟩
    have bx1 := ((((((bx0.new (o := .tup [.str "cell", .int 0]) hp1).new (o := .tup [.str "cell", .int 1]) hp2).new (o := .tup [.str "prop", .int 0]) hp3).new (o := .tup [.str "store", .int 0]) hp4).new (o := .tup [.str "store", .int 1]) hp5).new (o := .tup [.str "index"]) hp6).new (o := .lst [.ref p1, .ref p2, .ref p3, .ref p4, .ref p5, .ref p6]) hl
    have g7 := Oth.new (S := [b]) (o := .lst [.ref p1, .ref p2, .ref p3, .ref p4, .ref p5, .ref p6]) hl
    have g6 := (Oth.new (S := [b]) (o := .tup [.str "index"]) hp6).trans g7
    have g5 := (Oth.new (S := [b]) (o := .tup [.str "store", .int 1]) hp5).trans g6
    have g4 := (Oth.new (S := [b]) (o := .tup [.str "store", .int 0]) hp4).trans g5
    have g3 := (Oth.new (S := [b]) (o := .tup [.str "prop", .int 0]) hp3).trans g4
    have g2 := (Oth.new (S := [b]) (o := .tup [.str "cell", .int 1]) hp2).trans g3
    have g1 := (Oth.new (S := [b]) (o := .tup [.str "cell", .int 0]) hp1).trans g2
    have nlb : l ≠ b := fun z => by
      have z' := ((((((bx0.new (o := .tup [.str "cell", .int 0]) hp1).new (o := .tup [.str "cell", .int 1]) hp2).new (o := .tup [.str "prop", .int 0]) hp3).new (o := .tup [.str "store", .int 0]) hp4).new (o := .tup [.str "store", .int 1]) hp5).new (o := .tup [.str "index"]) hp6).nb hl
      exact z' z.symm
    refine ⟨_, rfl, b, dg, pl, _, rfl, by decide, bx1, fun r1 H2 l1 u1 bx2 o2 => ⟨sz, fun p7 hp7 => ⟨sz, fun l2 hl2 => ?_⟩⟩⟩
    have g8 := Oth.new (S := [b]) (o := .tup [.str "num", .int r1]) hp7
    have g9 := Oth.new (S := [b]) (o := .lst [.ref p7]) hl2
    have g89 := g8.trans g9
    have ll := g89.keep l _ (by simp [nlb]) (o2.keep l _ (by simp [nlb]) upd_same)
    refine ⟨_, rfl, l2, l, _, _, rfl, rfl, upd_same, ll, sz, fun l3 hl3 => ?_⟩
    have g10 := Oth.new (S := [b]) (o := .lst ([.ref p7] ++ [.ref p1, .ref p2, .ref p3, .ref p4, .ref p5, .ref p6])) hl3
    have cs : kind % 7 = 0 ∨ kind % 7 = 1 ∨ kind % 7 = 2 ∨ kind % 7 = 3 ∨ kind % 7 = 4 ∨ kind % 7 = 5 ∨ kind % 7 = 6 := by omega
    refine ⟨_, rfl, .inl ⟨_, rfl, _, _, rfl, rfl, (by show (0 : Int) < 7; decide), l3, _, _, ?yyv, rfl, rfl, SqL.of upd_same, ?yya, ?yyb⟩⟩
    case yyv => exact if kind % 7 = 0 then .ref p7 else if kind % 7 = 1 then .ref p1 else if kind % 7 = 2 then .ref p2 else if kind % 7 = 3 then .ref p3 else if kind % 7 = 4 then .ref p4 else if kind % 7 = 5 then .ref p5 else .ref p6
    case yya => rcases cs with e | e | e | e | e | e | e <;> rw [e] <;> first | exact at0 | exact at1 | exact at2 | exact at3 | exact at4 | exact at5 | exact atI_nat (j := 6) rfl
    case yyb =>
      have t1 := o2.trans (g89.trans g10)
      have g0 := o0.trans (g1.trans t1)
      have bxf := ((bx2.new (o := .tup [.str "num", .int r1]) hp7).new (o := .lst [.ref p7]) hl2).new (o := .lst ([.ref p7] ++ [.ref p1, .ref p2, .ref p3, .ref p4, .ref p5, .ref p6])) hl3
      rcases cs with e | e | e | e | e | e | e
      · rw [if_pos e]; exact q (.num r1) _ _ (Nat.zero_le _) (thin_leaf1 "num" r1 d _ rfl l1 (by omega) (by decide) (by decide)) (IsT.mk2 ((g9.trans g10).tup _ _ upd_same) (.str _) (.int _)) bxf g0
      · rw [if_neg (by omega), if_pos e]; exact q (.cell 0) _ _ (Nat.zero_le _) (thin_leaf1 "cell" 0 d _ rfl (by decide) (by decide) (by decide) (by decide)) (IsT.mk2 ((g2.trans t1).tup _ _ upd_same) (.str _) (.int _)) bxf g0
      · rw [if_neg (by omega), if_neg (by omega), if_pos e]; exact q (.cell 1) _ _ (Nat.zero_le _) (thin_leaf1 "cell" 1 d _ rfl (by decide) (by decide) (by decide) (by decide)) (IsT.mk2 ((g3.trans t1).tup _ _ upd_same) (.str _) (.int _)) bxf g0
      · rw [if_neg (by omega), if_neg (by omega), if_neg (by omega), if_pos e]; exact q (.prop 0) _ _ (Nat.zero_le _) (thin_leaf1 "prop" 0 d _ rfl (by decide) (by decide) (by decide) (by decide)) (IsT.mk2 ((g4.trans t1).tup _ _ upd_same) (.str _) (.int _)) bxf g0
      · rw [if_neg (by omega), if_neg (by omega), if_neg (by omega), if_neg (by omega), if_pos e]; exact q (.store 0) _ _ (Nat.zero_le _) (thin_leaf1 "store" 0 d _ rfl (by decide) (by decide) (by decide) (by decide)) (IsT.mk2 ((g5.trans t1).tup _ _ upd_same) (.str _) (.int _)) bxf g0
      · rw [if_neg (by omega), if_neg (by omega), if_neg (by omega), if_neg (by omega), if_neg (by omega), if_pos e]; exact q (.store 1) _ _ (Nat.zero_le _) (thin_leaf1 "store" 1 d _ rfl (by decide) (by decide) (by decide) (by decide)) (IsT.mk2 ((g6.trans t1).tup _ _ upd_same) (.str _) (.int _)) bxf g0
      · rw [if_neg (by omega), if_neg (by omega), if_neg (by omega), if_neg (by omega), if_neg (by omega), if_neg (by omega)]; exact q .index _ _ (Nat.zero_le _) (thin_index d) (IsT.mk1 ((g7.trans t1).tup _ _ upd_same) (.str _)) bxf g0
theorem ok_key {f fE fR : Addr} {fd dE dR : FuncData} {k : Nat} (F : Fun K "_law_key" "_law_key" sKey f fd)
    (GE : FnOk P w K mg base CX0 k fE dE ["box", "depth"] (spExpr1 2)) (bE : Binds K dE ["box", "depth"] []) (kE : PySem.W.keepIn K (.ref fE) = true) (mE : mg "_law_expr" = some (.ref fE))
    (GR : FnOk P w K mg base CX0 k fR dR ["box", "many"] spDrawX) (bR : Binds K dR ["box", "many"] []) (kR : PySem.W.keepIn K (.ref fR) = true) (mR : mg "_law_draw" = some (.ref fR)) :
    FnOk P w K mg base CX0 (k + 1) f fd ["box"] spKey1 := by
  refine F.ok scKey (fun vs H Q E h => ?_) (fun cdv A outer s H vs Q E' hr h => ?_)
  · obtain ⟨b, dg, pl, rfl, _⟩ := h
    rfl
  obtain ⟨b, dg, pl, rfl, bx, q⟩ := h
  have nd := scKey.nd
  refine ⟨_, (pss_cons (ps_if (pt_cmpR op_eq (pe_call GR hr rfl mR kR bR .nil pass0 (pa_cons (pv 0) (pa_cons pe_int pa_nil))) pe_int (nomark _))
  (pss_one (ps_ret (pe_call GE hr rfl mE kE bE .nil pass0 (pa_cons (pv 0) (pa_cons pe_int pa_nil)))))
  pss_nil)
  (pss_one (ps_ret pe_non))), ?_⟩
  refine ⟨_, rfl, b, dg, pl, _, rfl, by decide, bx, fun kind H0 k0 k1 bx0 o0 => ⟨rfl, _, rfl, ite2 (fun c => ?_) (fun c => ?_)⟩⟩
  · exact ⟨_, rfl, b, dg, pl, 1, rfl, by decide, bx0, fun e v H1 d1 z1 t1 bx1 o1 => q (some e) v H1 (fun e' h => by cases h; exact d1) (fun e' h => by cases h; exact z1) t1 bx1 (o0.trans o1)⟩
  · exact q none _ H0 (fun e h => by cases h) (fun e h => by cases h) .non bx0 o0
end
end Pw
namespace Pw
open PySem PySem.Spec PyProof.Rows L2
abbrev sTemplate : Stmt := topS 22
theorem scTemplate : FnScope ["box", "own", "level", "last", "free", "kind", "action", "key", "tag", "test", "yes", "count", "props", "k"] ["box", "own", "level", "last", "free"] (defScope sTemplate) := ⟨rfl, rfl, rfl, by decide +kernel, rfl, by decide +kernel, by decide +kernel⟩
section
variable {P : Program} {w : World} {K : PySem.W.Frag} {mg : Str → Option Value} {base : Heap}
theorem ok_template {f fE fR fK fN : Addr} {fd dE dR dK dN : FuncData} {k n : Nat} (F : Fun K "_law_template" "_law_template" sTemplate f fd)
    (GE : FnOk P w K mg base CX0 k fE dE ["box", "depth"] (spExpr1 2)) (bE : Binds K dE ["box", "depth"] []) (kE : PySem.W.keepIn K (.ref fE) = true) (mE : mg "_law_expr" = some (.ref fE))
    (GR : FnOk P w K mg base CX0 k fR dR ["box", "many"] spDrawX) (bR : Binds K dR ["box", "many"] []) (kR : PySem.W.keepIn K (.ref fR) = true) (mR : mg "_law_draw" = some (.ref fR))
    (GK : FnOk P w K mg base CX0 k fK dK ["box"] spKey1) (bK : Binds K dK ["box"] []) (kK : PySem.W.keepIn K (.ref fK) = true) (mK : mg "_law_key" = some (.ref fK))
    (GN : FnOk P w K mg base CX0 k fN dN ["box", "own", "level", "last", "free"] (spContents1 n)) (bN : Binds K dN ["box", "own", "level", "last", "free"] []) (kN : PySem.W.keepIn K (.ref fN) = true) (mN : mg "_law_contents" = some (.ref fN))
    (m_int : mg "int" = none) (m_len : mg "len" = none) (m_range : mg "range" = none) (m_tuple : mg "tuple" = none) :
    FnOk P w K mg base CX0 (k + 1) f fd ["box", "own", "level", "last", "free"] (spTemplate1 (n + 1)) := by
  refine F.ok scTemplate (fun vs H Q E h => ?_) (fun cdv A outer s H vs Q E' hr h => ?_)
  · obtain ⟨b, dg, pl, own, level, last, r, free, rfl, _⟩ := h
    rfl
  obtain ⟨b, dg, pl, own, level, last, r, free, rfl, hlr, hrn, hla, bx, q⟩ := h
  have nd := scTemplate.nd
  refine ⟨_, (pss_cons (ps_asg (pe_op op_sub (pe_ix ix_list (pv 0) pe_int (fun _ _ => rfl)) pe_int) (pg_sub (pv 0) pe_int set_list))
  (pss_cons (ps_set (i := 5) nd rfl (.inl rfl) (pe_call GR hr rfl mR kR bR .nil pass0 (pa_cons (pv 0) (pa_cons pe_int pa_nil))))
  (pss_cons (ps_if (pt_cmpR op_eq (pv 5) pe_int (nomark _))
  (pss_one (ps_ret (pe_tup (pa_cons pe_str (pa_cons (pe_ix ix_list (pe_lst (pa_cons pe_str (pa_cons pe_str (pa_cons pe_str pa_nil)))) (pe_call GR hr rfl mR kR bR .nil pass0 (pa_cons (pv 0) (pa_cons pe_int pa_nil))) (fun _ _ => rfl)) pa_nil)))))
  pss_nil)
  (pss_cons (ps_if (PW.pt (pw_and (pt_cmpR op_lt (pv 5) pe_int (nomark _)) (pw_and (pt_cmpR op_lt (pv 2) pe_int (nomark _)) (pw_and1 (pt_cmpR op_gt (pe_ix ix_list (pv 0) pe_int (fun _ _ => rfl)) pe_int (nomark _))))))
  (pss_cons (ps_set (i := 6) nd rfl (.inl rfl) (pe_ix ix_list (pe_lst (pa_cons pe_non (pa_cons pe_int (pa_cons pe_int (pa_cons pe_int pa_nil))))) (pe_call GR hr rfl mR kR bR .nil pass0 (pa_cons (pv 0) (pa_cons pe_int pa_nil))) (fun _ _ => rfl)))
  (pss_cons (ps_set (i := 7) nd rfl (.inl rfl) (pe_call GK hr rfl mK kK bK .nil pass0 (pa_cons (pv 0) pa_nil)))
  (pss_cons (ps_set (i := 8) nd rfl (.inl rfl) (pe_ix ix_list (pe_lst (pa_cons pe_str (pa_cons pe_str (pa_cons pe_str pa_nil)))) (pe_call GR hr rfl mR kR bR .nil pass0 (pa_cons (pv 0) (pa_cons pe_int pa_nil))) (fun _ _ => rfl)))
  (pss_one (ps_ret (pe_tup (pa_cons pe_str (pa_cons (pv 8) (pa_cons (pv 7) (pa_cons (pv 6) (pa_cons (pe_call GN hr rfl mN kN bN .nil pass0 (pa_cons (pv 0) (pa_cons (pv 1) (pa_cons (pe_op op_add (pv 2) pe_int) (pa_cons (pv 3) (pa_cons (pv 4) pa_nil)))))) pa_nil)))))))))))
  pss_nil)
  (pss_cons (ps_if (PW.pt (pw_and (pt_cmpR op_eq (pv 5) pe_int (nomark _)) (pw_and (pt_cmpR op_lt (pv 2) pe_int (nomark _)) (pw_and1 (pt_cmpR op_gt (pe_ix ix_list (pv 0) pe_int (fun _ _ => rfl)) pe_int (nomark _))))))
  (pss_cons (ps_set (i := 9) nd rfl (.inl rfl) (pe_call GE hr rfl mE kE bE .nil pass0 (pa_cons (pv 0) (pa_cons pe_int pa_nil))))
  (pss_cons (ps_set (i := 10) nd rfl (.inl rfl) (pe_call GN hr rfl mN kN bN .nil pass0 (pa_cons (pv 0) (pa_cons (pv 1) (pa_cons (pe_op op_add (pv 2) pe_int) (pa_cons (pv 3) (pa_cons pe_bl pa_nil)))))))
  (pss_one (ps_ret (pe_tup (pa_cons pe_str (pa_cons (pv 9) (pa_cons (pv 10) (pa_cons (pe_call GN hr rfl mN kN bN .nil pass0 (pa_cons (pv 0) (pa_cons (pv 1) (pa_cons (pe_op op_add (pv 2) pe_int) (pa_cons (pv 3) (pa_cons pe_bl pa_nil)))))) pa_nil)))))))))
  pss_nil)
  (pss_cons (ps_if (PW.pt (pw_and (pt_cmpR op_eq (pv 5) pe_int (nomark _)) (pw_and (pt_cmpR op_lt (pv 2) pe_int (nomark _)) (pw_and (pt_cmpR op_gt (pe_ix ix_list (pv 0) pe_int (fun _ _ => rfl)) pe_int (nomark _)) (pw_and1 (pt_cmpR op_gt (pe_ix ix_list (pv 0) pe_int (fun _ _ => rfl)) pe_int (nomark _)))))))
  (pss_cons (ps_asg pe_int (pg_sub (pv 0) pe_int set_list))
  (pss_cons (ps_set (i := 11) nd rfl (.inl rfl) (pe_tup (pa_cons pe_str (pa_cons (pe_tup (pa_cons pe_str (pa_cons (pe_call GE hr rfl mE kE bE .nil pass0 (pa_cons (pv 0) (pa_cons pe_int pa_nil))) (pa_cons (pe_call GE hr rfl mE kE bE .nil pass0 (pa_cons (pv 0) (pa_cons pe_int pa_nil))) pa_nil)))) (pa_cons (pe_tup (pa_cons pe_str (pa_cons (pe_call GR hr rfl mR kR bR .nil pass0 (pa_cons (pv 0) (pa_cons pe_int pa_nil))) pa_nil))) pa_nil)))))
  (pss_one (ps_ret (pe_tup (pa_cons pe_str (pa_cons (pv 11) (pa_cons (pe_call GN hr rfl mN kN bN .nil pass0 (pa_cons (pv 0) (pa_cons (pv 1) (pa_cons (pe_op op_add (pv 2) pe_int) (pa_cons (pv 3) (pa_cons pe_bl pa_nil)))))) pa_nil))))))))
  pss_nil)
  (pss_cons (ps_if (PW.pt (pw_and (pt_cmpR op_lt (pv 5) pe_int (nomark _)) (pw_and (pt_cmpR op_lt (pv 1) (pv 3) (nomark _)) (pw_and1 (pt_cmpR op_gt (pe_ix ix_list (pv 0) pe_int (fun _ _ => rfl)) pe_int (nomark _))))))
  (pss_cons (ps_asg (pe_op op_sub (pe_ix ix_list (pv 0) pe_int (fun _ _ => rfl)) pe_int) (pg_sub (pv 0) pe_int set_list))
  (pss_cons (ps_set (i := 12) nd rfl (.inl rfl) (pe_tupleOf (by rfl) m_tuple (pe_lc (own := [("k", 13)]) (g := gName 13) (tt := tYes) rfl nd (pi_range1 (by rfl) m_range (pa_cons (pe_call GR hr rfl mR kR bR .nil pass0 (pa_cons (pv 0) (pa_cons pe_int pa_nil))) pa_nil)) (blkOk_by (N := ["box", "own", "level", "last", "free", "kind", "action", "key", "tag", "test", "yes", "count", "props", "k"]) (sc := defScope sTemplate) (by decide +kernel)) (fun _ _ _ _ _ => (pg_name (i := 13) nd rfl (.inl rfl))) (fun _ _ _ _ _ => pts_nil) (fun _ _ _ _ _ => (pe_call GE hr rfl mE kE bE .nil pass0 (pa_cons (pv 0) (pa_cons pe_int pa_nil)))))))
  (pss_one (ps_ret (pe_tup (pa_cons pe_str (pa_cons (pe_op op_add (pe_op op_add (pv 1) pe_int) (pe_call GR hr rfl mR kR bR .nil pass0 (pa_cons (pv 0) (pa_cons (pe_op op_sub (pv 3) (pv 1)) pa_nil)))) (pa_cons (pe_call GK hr rfl mK kK bK .nil pass0 (pa_cons (pv 0) pa_nil)) (pa_cons (pv 12) pa_nil)))))))))
  pss_nil)
  (pss_cons (ps_if (PW.pt (pw_and (pt_cmpR op_eq (pv 5) pe_int (nomark _)) (pw_and (pt_cmpR op_eq (pv 1) pe_int (nomark _)) (pw_and (pt_val (pv 4)) (pw_and1 (pt_cmpR op_gt (pe_callB call_len_seq (by rfl) m_len PySem.boot_len (pa_cons (pe_ix ix_list (pv 0) pe_int (fun _ _ => rfl)) pa_nil)) pe_int (nomark _)))))))
  (pss_one (ps_ret (pe_tup (pa_cons pe_str (pa_cons (pe_bm0 PySem.F.plainAttrs_list PySem.F.slot_list_pop PySem.F.type_list_pop mt_pop (pe_ix ix_list (pv 0) pe_int (fun _ _ => rfl))) pa_nil)))))
  pss_nil)
  (pss_cons (ps_if (pt_cmpR op_eq (pv 5) pe_int (nomark _))
  (pss_one (ps_ret (pe_tup (pa_cons pe_str (pa_cons pe_str (pa_cons (pe_call GR hr rfl mR kR bR .nil pass0 (pa_cons (pv 0) (pa_cons pe_int pa_nil))) pa_nil))))))
  pss_nil)
  (pss_one (ps_ret (pe_tup (pa_cons pe_str (pa_cons (pe_call GE hr rfl mE kE bE .nil pass0 (pa_cons (pv 0) (pa_cons pe_int pa_nil))) pa_nil)))))))))))))), ?_⟩
  obtain ⟨at', n2, n3, n4, hb⟩ := bx.get
  refine ⟨_, rfl, b, _, _, _, rfl, rfl, SqL.of hb, at2, _, _, rfl, rfl, ?_⟩
  refine ⟨_, rfl, b, _, 2, 2, rfl, rfl, hb, rfl, ?_⟩
  have bxa := bx.put at' (n2 - 1) n3 n4
  have oa : Oth [b, pl] H (upd H b (.lst [.ref dg, .int (at' : Int), .int (n2 - 1), .int n3, .int n4, .ref pl])) := Oth.put (by simp) hb
  refine ⟨_, rfl, b, dg, pl, _, rfl, by decide, bxa, fun kind H0 k0 k1 bx0 o0 => ?_⟩
  have o00 : Oth [b, pl] H H0 := oa.trans o0.two
  clear bxa
  -- text
  refine ⟨_, rfl, rfl, _, rfl, ite2 (fun c => ?text) (fun c => ?_)⟩
  case text =>
    refine ⟨sz, fun l hl => ⟨_, rfl, b, dg, pl, _, rfl, by decide, bx0.new hl, fun r1 H1 l1 u1 bx1 o1 => ?_⟩⟩
    obtain ⟨v, vm, hv⟩ := at_mem (xs := [.str "a", .str "b c", .str "7"]) l1 u1
    refine ⟨l, _, _, _, rfl, rfl, SqL.of (bx0.lit hl o1), hv, sz, fun p hp => ?_⟩
    obtain ⟨s, rfl, hs1, hs2⟩ : ∃ s, v = .str s ∧ s.cps.toList.all (fun c => decide (c < 16 ^ 8)) = true ∧ s.cps.size ≤ 9 := by
      simp only [List.mem_cons, List.not_mem_nil, or_false] at vm
      rcases vm with e | e | e <;> exact ⟨_, e, by decide, by decide⟩
    exact q (.text s) _ _ (Nat.zero_le _) (numT_pos r) trivial (slim_text hs1 hs2) (.mk2 upd_same (.str _) (.str _)) (bx1.new hp) (o00.trans ((Oth.new hl).trans (o1.two.trans (Oth.new hp))))
  obtain ⟨a0, m2, m3, m4, hb0⟩ := bx0.get
  -- box
  refine (fun nx => ⟨_, rfl, _, _, rfl, rfl, _, rfl, ite2 (fun c1 => ⟨_, rfl, _, _, rfl, rfl, _, rfl, ite2 (fun c2 => ⟨_, rfl, b, _, _, _, rfl, rfl, SqL.of hb0, at2, _, _, rfl, rfl, _, rfl, ite2 (fun c3 => ?tbox) (fun _ => nx)⟩) (fun _ => iteF nx)⟩) (fun _ => iteF nx)⟩) ?_
  case tbox =>
    have hl3 : (level : Int) < 3 := of_decide_eq_true c2
    obtain ⟨r', rfl⟩ : ∃ r', r = r' + 1 := ⟨r - 1, by omega⟩
    refine ⟨sz, fun l hl => ⟨_, rfl, b, dg, pl, _, rfl, by decide, bx0.new hl, fun r1 H1 l1 u1 bx1 o1 => ?_⟩⟩
    obtain ⟨va, vam, hva⟩ := at_mem (xs := [.non, .int 0, .int 1, .int 2]) l1 u1
    obtain ⟨act, ta, ha16⟩ : ∃ act : Option Nat, (∀ H', IsT H' (actT act) va) ∧ ∀ n ∈ act, n < 16 := by
      simp only [List.mem_cons, List.not_mem_nil, or_false] at vam
      rcases vam with e | e | e | e <;> rw [e]
      · exact ⟨none, fun _ => .non, by simp⟩
      · exact ⟨some 0, fun _ => .int _, by simp⟩
      · exact ⟨some 1, fun _ => .int _, by simp⟩
      · exact ⟨some 2, fun _ => .int _, by simp⟩
    refine ⟨l, _, _, _, rfl, rfl, SqL.of (bx0.lit hl o1), hva, ?_⟩
    refine ⟨_, rfl, b, dg, pl, rfl, bx1, fun key vk H2 dk zk tk bx2 o2 => ?_⟩
    refine ⟨sz, fun l2 hl2 => ⟨_, rfl, b, dg, pl, _, rfl, by decide, bx2.new hl2, fun r3 H3 l3 u3 bx3 o3 => ?_⟩⟩
    obtain ⟨vt, vtm, hvt⟩ := at_mem (xs := [.str "p", .str "div", .str "li"]) l3 u3
    obtain ⟨tag, rfl, hs1, hs2⟩ : ∃ s, vt = .str s ∧ s.cps.toList.all (fun c => decide (c < 16 ^ 8)) = true ∧ s.cps.size ≤ 9 := by
      simp only [List.mem_cons, List.not_mem_nil, or_false] at vtm
      rcases vtm with e | e | e <;> exact ⟨_, e, by decide, by decide⟩
    refine ⟨l2, _, _, _, rfl, rfl, SqL.of (bx2.lit hl2 o3), hvt, ?_⟩
    refine ⟨_, rfl, _, rfl, _, rfl, _, rfl, _, rfl, _, rfl, _, _, rfl, rfl, _, rfl, _, rfl, b, dg, pl, own, level + 1, last, r', free, rfl, by omega, by omega, hla, bx3, fun cs vc H4 d4 n4' f4 y4 t4 bx4 o4 => ⟨sz, fun p hp => ?_⟩⟩
    have on := Oth.new (S := [b, pl]) (o := .tup [.str "box", .str tag, vk, va, vc]) hp
    have o24 := ((Oth.new hl2).trans o3.two).trans o4
    refine q (.box tag key act cs) _ _ (by simp only [Tp.dep]; omega) (by simp only [Tp.cnt, numT]; omega) ⟨fun e he => Nat.le_trans (dk e he) (by decide), f4⟩ (slim_box hs1 hs2 zk ha16 y4) ?_ (bx4.new hp) (o00.trans (((Oth.new hl).trans o1.two).trans (o2.two.trans (o24.trans on))))
    exact .mk5 upd_same (.str _) (.str _) ((tk.oth o24).oth on) (ta _) (t4.oth on)
  clear c
  -- when
  refine (fun nx => ⟨_, rfl, rfl, _, rfl, ite2 (fun c1 => ⟨_, rfl, _, _, rfl, rfl, _, rfl, ite2 (fun c2 => ⟨_, rfl, b, _, _, _, rfl, rfl, SqL.of hb0, at2, _, _, rfl, rfl, _, rfl, ite2 (fun c3 => ?twhen) (fun _ => nx)⟩) (fun _ => iteF nx)⟩) (fun _ => iteF nx)⟩) ?_
  case twhen =>
    have hl3 : (level : Int) < 3 := of_decide_eq_true c2
    obtain ⟨r', rfl⟩ : ∃ r', r = r' + 1 := ⟨r - 1, by omega⟩
    refine ⟨_, rfl, b, dg, pl, 1, rfl, by decide, bx0, fun e1 v1 H1 d1 z1 t1 bx1 o1 => ?_⟩
    refine ⟨_, rfl, _, rfl, _, rfl, _, _, rfl, rfl, _, rfl, b, dg, pl, own, level + 1, last, r', false, rfl, by omega, by omega, hla, bx1, fun cs vc H2 d2 n2' f2 y2 t2 bx2 o2 => ?_⟩
    refine ⟨_, rfl, _, rfl, _, rfl, _, rfl, _, rfl, _, _, rfl, rfl, _, rfl, b, dg, pl, own, level + 1, last, r', false, rfl, by omega, by omega, hla, bx2, fun os vo H3 d3 n3' f3 y3 t3 bx3 o3 => ⟨sz, fun p hp => ?_⟩⟩
    have on := Oth.new (S := [b, pl]) (o := .tup [.str "when", v1, vc, vo]) hp
    refine q (.when e1 cs os) _ _ (by simp only [Tp.dep]; omega) (by simp only [Tp.cnt, numT]; omega) ⟨by omega, f2, f3⟩ (slim_when z1 y2 y3) ?_ (bx3.new hp) (o00.trans (o1.two.trans (o2.trans (o3.trans on))))
    exact .mk4 upd_same (.str _) (((t1.oth o2).oth o3).oth on) ((t2.oth o3).oth on) (t3.oth on)
  -- each
  refine (fun nx => ⟨_, rfl, rfl, _, rfl, ite2 (fun c1 => ⟨_, rfl, _, _, rfl, rfl, _, rfl, ite2 (fun c2 => ⟨_, rfl, b, _, _, _, rfl, rfl, SqL.of hb0, at2, _, _, rfl, rfl, _, rfl, ite2 (fun c3 => ⟨_, rfl, b, _, _, _, rfl, rfl, SqL.of hb0, at4, _, _, rfl, rfl, _, rfl, ite2 (fun c4 => ?teach) (fun _ => nx)⟩) (fun _ => iteF nx)⟩) (fun _ => iteF nx)⟩) (fun _ => iteF nx)⟩) ?_
  case teach =>
    have hl3 : (level : Int) < 3 := of_decide_eq_true c2
    obtain ⟨r', rfl⟩ : ∃ r', r = r' + 1 := ⟨r - 1, by omega⟩
    refine ⟨_, rfl, b, _, 4, 4, rfl, rfl, hb0, rfl, ?_⟩
    have bxb := bx0.put a0 m2 m3 0
    have ob : Oth [b, pl] H0 (upd H0 b (.lst [.ref dg, .int (a0 : Int), .int m2, .int m3, .int 0, .ref pl])) := Oth.put (by simp) hb0
    refine ⟨_, rfl, b, dg, pl, 1, rfl, by decide, bxb, fun e1 v1 H1 d1 z1 t1 bx1 o1 => ?_⟩
    refine ⟨_, rfl, b, dg, pl, 0, rfl, by decide, bx1, fun e2 v2 H2 d2 z2 t2 bx2 o2 => ⟨sz, fun p1 hp1 => ?_⟩⟩
    refine ⟨_, rfl, b, dg, pl, _, rfl, by decide, bx2.new hp1, fun r3 H3 l3 u3 bx3 o3 => ⟨sz, fun p2 hp2 => ⟨sz, fun p3 hp3 => ?_⟩⟩⟩
    have s1 := Oth.new (S := [b, pl]) (o := .tup [.str "same", v1, v2]) hp1
    have s2 := Oth.new (S := [b, pl]) (o := .tup [.str "num", .int r3]) hp2
    have s3 := Oth.new (S := [b, pl]) (o := .tup [.str "plus", .ref p1, .ref p2]) hp3
    have s13 := s1.trans (o3.two.trans (s2.trans s3))
    refine ⟨_, rfl, _, rfl, _, rfl, _, rfl, _, _, rfl, rfl, _, rfl, b, dg, pl, own, level + 1, last, r', false, rfl, by omega, by omega, hla, (bx3.new hp2).new hp3, fun cs vc H4 d4 n4' f4 y4 t4 bx4 o4 => ⟨sz, fun p hp => ?_⟩⟩
    have on := Oth.new (S := [b, pl]) (o := .tup [.str "each", .ref p3, vc]) hp
    refine q (.each (.plus (.same e1 e2) (.num r3)) cs) _ _ (by simp only [Tp.dep]; omega) (by simp only [Tp.cnt, numT]; omega) ⟨by simp only [E.depth]; omega, f4⟩ (slim_each (thin_count z1 z2 l3 (by omega)).1 (thin_count z1 z2 l3 (by omega)).2 y4) ?_ (bx4.new hp) (o00.trans (ob.trans (o1.two.trans (o2.two.trans (s13.trans (o4.trans on))))))
    refine .mk3 upd_same (.str _) ?_ (t4.oth on)
    have o4n := o4.trans on
    refine .mk3 (o4n.tup _ _ upd_same) (.str _) (.mk3 ((o3.two.trans (s2.trans (s3.trans o4n))).tup _ _ upd_same) (.str _) (((t1.oth o2).oth s13).oth o4n) ((t2.oth s13).oth o4n)) (.mk2 ((s3.trans o4n).tup _ _ upd_same) (.str _) (.int _))
  -- child
  refine (fun nx => ⟨_, rfl, _, _, rfl, rfl, _, rfl, ite2 (fun c1 => ⟨_, rfl, _, rfl, _, _, rfl, rfl, _, rfl, ite2 (fun c2 => ⟨_, rfl, b, _, _, _, rfl, rfl, SqL.of hb0, at3, _, _, rfl, rfl, _, rfl, ite2 (fun c3 => ?tchild) (fun _ => nx)⟩) (fun _ => iteF nx)⟩) (fun _ => iteF nx)⟩) ?_
  case tchild =>
    have hol : (own : Int) < (last : Int) := of_decide_eq_true c2
    refine ⟨_, rfl, b, _, _, _, rfl, rfl, SqL.of hb0, at3, _, _, rfl, rfl, _, rfl, b, _, 3, 3, rfl, rfl, hb0, rfl, ?_⟩
    have bxb := bx0.put a0 m2 (m3 - 1) m4
    have ob : Oth [b, pl] H0 (upd H0 b (.lst [.ref dg, .int (a0 : Int), .int m2, .int (m3 - 1), .int m4, .ref pl])) := Oth.put (by simp) hb0
    refine ⟨_, rfl, b, dg, pl, _, rfl, by decide, bxb, fun m H1 l1 u1 bx1 o1 => ?_⟩
    have s01 := ob.trans o1.two
    refine ⟨m, rfl, by omega, by omega, fun D hD => lc_range (lo := 0) (n := m.toNat)
      (fun j H4 => Bx H4 b dg pl ∧ ∃ (es : List E) (vs : List V), H4 D = some (.lst vs) ∧ Paired (IsT H4) (es.map E.toT) vs ∧ es.length = j ∧ (∀ e ∈ es, e.depth ≤ 1) ∧ (∀ e ∈ es, e.Thin 1) ∧ Oth [b, D] H1 H4)
      ⟨bx1.new hD, [], [], upd_same, .nil, rfl, by simp, by simp, Oth.new hD⟩ (fun j H4 hj hW => ?_) (fun H4 hW => ?_)⟩
    · obtain ⟨bx4, es, vs, hD4, pv4, ej, dj, zj, o4⟩ := hW
      have nbD : b ≠ D := bx1.nb hD
      refine ⟨rfl, ⟨_, rfl, b, dg, pl, 1, rfl, by decide, bx4, fun e v H5 d5 z5 t5 bx5 o5 => ?_⟩⟩
      have hD5 := o5.keep D _ (by simp [nbD.symm]) hD4
      have lv : vs.length = j := by rw [(paired_get pv4).1, List.length_map, ej]
      have op : Oth [b, D] H5 (upd H5 D (.lst (vs ++ [v]))) := Oth.put (by simp) hD5
      refine ⟨vs, hD5, small1000 (by omega), ?_, es ++ [e], vs ++ [v], upd_same, ?_, by rw [List.length_append, ej]; rfl, ?_, ?_, (o4.trans (o5.mono (by simp))).trans op⟩
      · exact bx5.oth (S := [D]) (Oth.put (by simp) hD5) (by simp [nbD]) (by simp [bx1.ndn hD]) (by simp [bx1.npn hD])
      · rw [List.map_append]
        exact paired_app (paired_oth (paired_oth pv4 o5) op) (.cons (t5.oth op) .nil)
      · intro e' he
        rcases List.mem_append.mp he with h | h
        · exact dj e' h
        · rw [List.mem_singleton.mp h]; exact d5
      · intro e' he
        rcases List.mem_append.mp he with h | h
        · exact zj e' h
        · rw [List.mem_singleton.mp h]; exact z5
    · obtain ⟨bx4, es, vs, hD4, pv4, ej, dj, zj, o4⟩ := hW
      have o4' := Oth.drop2 o4 hD
      refine .inl ⟨D, _, rfl, SqL.of hD4, fun t ht => ?_⟩
      have ot := Oth.new (S := [b, pl]) (o := .tup vs) ht
      refine ⟨_, rfl, _, _, rfl, rfl, _, rfl, _, rfl, _, rfl, _, _, rfl, rfl, b, dg, pl, _, rfl, by omega, bx4.new ht, fun r5 H5 l5 u5 bx5 o5 => ⟨_, _, rfl, rfl, _, rfl, b, dg, pl, rfl, bx5, fun key vk H6 dk zk tk bx6 o6 => ⟨_, rfl, sz, fun p hp => ?_⟩⟩⟩
      obtain ⟨n5, rfl⟩ := Int.eq_ofNat_of_zero_le l5
      have on := Oth.new (S := [b, pl]) (o := .tup [.str "child", .int ((own : Int) + 1 + (n5 : Int)), vk, .ref t]) hp
      have o56 := o5.two.trans (o6.two.trans on)
      refine q (.child (own + 1 + n5) key es) _ _ (Nat.zero_le _) (numT_pos r) ⟨fun e he => Nat.le_trans (dk e he) (by decide), by omega, fun e he => Nat.le_trans (dj e he) (by decide)⟩ (slim_child (by omega) zk (by omega) zj) ?_ (bx6.new hp) (o00.trans (s01.trans (o4'.two.trans (ot.trans o56))))
      exact .mk4 upd_same (.str _) (.int _) (tk.oth on) (.mk (o56.tup _ _ upd_same) (paired_oth pv4 (ot.trans o56)))
  -- part
  obtain ⟨ps, hpl, hps⟩ := bx0.parts
  refine (fun nx => ⟨_, rfl, rfl, _, rfl, ite2 (fun c1 => ⟨_, rfl, rfl, _, rfl, ite2 (fun c2 => ⟨_, rfl, _, rfl, ite2 (fun c3 => ⟨_, rfl, b, _, _, _, rfl, rfl, SqL.of hb0, at5, pl, _, rfl, .inl (SqL.of hpl), _, _, rfl, rfl, _, rfl, ite2 (fun c4 => ?tpart) (fun _ => nx)⟩) (fun _ => iteF nx)⟩) (fun _ => iteF nx)⟩) (fun _ => iteF nx)⟩) ?_
  case tpart =>
    have hne : (0 : Int) < (((ps.map natV).length : Nat) : Int) := of_decide_eq_true c4
    rw [List.length_map] at hne
    have hlt : ps.length - 1 < ps.length := by omega
    have g : (ps.map natV)[(ps.map natV).length - 1]? = some (natV ps[ps.length - 1]) := by rw [List.length_map, List.getElem?_map, List.getElem?_eq_getElem hlt]; rfl
    refine ⟨_, rfl, b, _, _, _, rfl, rfl, SqL.of hb0, at5, .inl ⟨rfl, _, SqL.of hpl⟩, pl, _, _, rfl, rfl, hpl, g, sz, fun p hp => ?_⟩
    have ob : Oth [b, pl] H0 (upd H0 pl (.lst (ps.map natV).dropLast)) := Oth.put (by simp) hpl
    have on := Oth.new (S := [b, pl]) (o := .tup [.str "part", natV ps[ps.length - 1]]) hp
    have bxp : Bx (upd H0 pl (.lst (ps.map natV).dropLast)) b dg pl := by
      obtain ⟨ds, hds⟩ := bx0.dig
      exact ⟨⟨m2, m3, m4, ds, a0, by rw [upd_ne (bx0.npb.symm)]; exact hb0, by rw [upd_ne (fun e => bx0.nd e.symm)]; exact hds⟩, ⟨ps.dropLast, by rw [upd_same, List.map_dropLast], by rw [List.length_dropLast]; have := hps.1; omega, fun n hn => hps.2 n (List.dropLast_subset _ hn)⟩, bx0.nd⟩
    exact q (.part _) _ _ (Nat.zero_le _) (numT_pos r) trivial (slim_part (Nat.lt_trans (hps.2 _ (List.getElem_mem hlt)) (by decide))) (.mk2 upd_same (.str _) (.int _)) (bxp.new hp) (o00.trans (ob.trans on))
  -- input
  refine ⟨_, rfl, rfl, _, rfl, ite2 (fun c1 => ?_) (fun c1 => ?_)⟩
  · refine ⟨_, rfl, b, dg, pl, _, rfl, by decide, bx0, fun r1 H1 l1 u1 bx1 o1 => ⟨sz, fun p hp => ?_⟩⟩
    obtain ⟨n1, rfl⟩ := Int.eq_ofNat_of_zero_le l1
    exact q (.input "q" n1) _ _ (Nat.zero_le _) (numT_pos r) trivial (slim_input (by omega)) (.mk3 upd_same (.str _) (.str _) (.int _)) (bx1.new hp) (o00.trans (o1.two.trans (Oth.new hp)))
  · refine ⟨_, rfl, b, dg, pl, 1, rfl, by decide, bx0, fun e1 v1 H1 d1 z1 t1 bx1 o1 => ⟨sz, fun p hp => ?_⟩⟩
    have on := Oth.new (S := [b, pl]) (o := .tup [.str "show", v1]) hp
    exact q (.show e1) _ _ (Nat.zero_le _) (numT_pos r) (Nat.le_trans d1 (by decide)) (slim_show z1) (.mk2 upd_same (.str _) (t1.oth on)) (bx1.new hp) (o00.trans (o1.two.trans on))
end
end Pw
namespace Pw
open PySem PySem.Spec PyProof.Rows L2
abbrev sContents : Stmt := topS 23
theorem scContents : FnScope ["box", "own", "level", "last", "free", "rows", "k"] ["box", "own", "level", "last", "free"] (defScope sContents) := ⟨rfl, rfl, rfl, by decide +kernel, rfl, by decide +kernel, by decide +kernel⟩
abbrev sBox : Stmt := topS 26
theorem scBox : FnScope ["script", "first", "last"] ["script", "first", "last"] (defScope sBox) := ⟨rfl, rfl, rfl, by decide +kernel, rfl, by decide +kernel, by decide +kernel⟩
section
variable {P : Program} {w : World} {K : PySem.W.Frag} {mg : Str → Option Value} {base : Heap}
theorem ok_contents {f fR fT : Addr} {fd dR dT : FuncData} {k n : Nat} (F : Fun K "_law_contents" "_law_contents" sContents f fd)
    (GR : FnOk P w K mg base CX0 k fR dR ["box", "many"] spDrawX) (bR : Binds K dR ["box", "many"] []) (kR : PySem.W.keepIn K (.ref fR) = true) (mR : mg "_law_draw" = some (.ref fR))
    (GT : FnOk P w K mg base CX0 k fT dT ["box", "own", "level", "last", "free"] (spTemplate1 n)) (bT : Binds K dT ["box", "own", "level", "last", "free"] []) (kT : PySem.W.keepIn K (.ref fT) = true) (mT : mg "_law_template" = some (.ref fT))
    (m_range : mg "range" = none) (m_tuple : mg "tuple" = none) :
    FnOk P w K mg base CX0 (k + 1) f fd ["box", "own", "level", "last", "free"] (spContents1 n) := by
  refine F.ok scContents (fun vs H Q E h => ?_) (fun cdv A outer s H vs Q E' hr h => ?_)
  · obtain ⟨b, dg, pl, own, level, last, r, free, rfl, _⟩ := h
    rfl
  obtain ⟨b, dg, pl, own, level, last, r, free, rfl, hlr, hrn, hla, bx, q⟩ := h
  have nd := scContents.nd
  refine ⟨_, (pss_cons (ps_set (i := 5) nd rfl (.inl rfl) (pe_lst pa_nil))
  (pss_cons (ps_for PassesOwn.never rfl (pi_range1 (by rfl) m_range (pa_cons (pe_op op_add pe_int (pe_call GR hr rfl mR kR bR .nil pass0 (pa_cons (pv 0) (pa_cons pe_int pa_nil)))) pa_nil)) (pg_name (i := 6) nd rfl (.inl rfl))
  (pss_one (ps_if (pt_cmpR op_gt (pe_ix ix_list (pv 0) pe_int (fun _ _ => rfl)) pe_int (nomark _))
  (pss_one (ps_expr (pe_bm PySem.F.plainAttrs_list PySem.F.slot_list_append PySem.F.type_list_append mt_append (pv 5) (pa_cons (pe_call GT hr rfl mT kT bT .nil pass0 (pa_cons (pv 0) (pa_cons (pv 1) (pa_cons (pv 2) (pa_cons (pv 3) (pa_cons (pv 4) pa_nil)))))) pa_nil))))
  pss_nil)))
  (pss_one (ps_ret (pe_tupleOf (by rfl) m_tuple (pv 5)))))), ?_⟩
  refine ⟨sz, fun p hp => ?_⟩
  have nbp := bx.nb hp
  refine ⟨_, rfl, b, dg, pl, _, rfl, by decide, bx.new hp, fun m H0 l0 u0 bx0 o0 => ⟨_, _, rfl, rfl, ?_⟩⟩
  have npp := bx.npn hp
  have ndp := bx.ndn hp
  refine ⟨_, rfl, by omega, by omega, for_range (lo := 0) (n := (1 + m).toNat)
    (fun i σ H1 => ∃ (x6 : Option V) (ts : List Tp) (vs : List V), σ = [some (.ref b), some (.int (own : Int)), some (.int (level : Int)), some (.int (last : Int)), some (.bl free), some (.ref p), x6] ∧ Bx H1 b dg pl ∧ H1 p = some (.lst vs) ∧ Paired (IsT H1) (Tp.toTs ts) vs ∧
      Tp.deps ts ≤ r ∧ Tp.cnts ts ≤ i * numT r ∧ ts.length ≤ i ∧ Tp.Fines ts ∧ Slims ts ∧ Oth [b, pl, p] H H1)
    ⟨none, [], [], rfl, bx0, bx.lit hp o0, .nil, Nat.zero_le _, Nat.zero_le _, Nat.zero_le _, trivial, Slims.nil, (Oth.new hp).trans (o0.mono (by simp))⟩ (fun i σ H1 hi hW => ?_) (fun σ H1 hW => ?_)⟩
  · obtain ⟨x6, ts, vs, rfl, bx1, hp1, pv, d1, c1, l1, f1, y1, o1⟩ := hW
    obtain ⟨a1, m2, m3, m4, hb1⟩ := bx1.get
    have e3 : (i + 1) * numT r = i * numT r + numT r := Nat.succ_mul _ _
    refine ⟨_, rfl, b, _, _, _, rfl, rfl, SqL.of hb1, at2, _, _, rfl, rfl, _, rfl, ite2 (fun c => ?_) (fun c => ?_)⟩
    · refine ⟨_, rfl, .inl ⟨rfl, _, SqL.of hp1⟩, _, rfl, _, rfl, _, rfl, _, rfl, _, rfl, b, dg, pl, own, level, last, r, free, rfl, hlr, hrn, hla, bx1, fun t v H2 d2 c2 f2 y2 t2 bx2 o2 => ?_⟩
      have hp2 := o2.keep p _ (by simp [nbp.symm, npp.symm]) hp1
      have lv : vs.length = ts.length := by rw [(paired_get pv).1, Tp.toTs_map, List.length_map]
      have op : Oth [p] H2 (upd H2 p (.lst (vs ++ [v]))) := Oth.put (by simp) hp2
      refine ⟨p, _, _, rfl, rfl, hp2, Nat.lt_of_le_of_lt (by omega : vs.length ≤ 1000) (by decide), ?_⟩
      refine ⟨_, ts ++ [t], vs ++ [v], rfl, bx2.oth op (by simp [nbp]) (by simp [ndp]) (by simp [npp]), upd_same, ?_, ?_, ?_, by simp; omega, fines_app (b := [t]) ⟨f2, trivial⟩ _ f1, y1.app (.one y2), o1.trans ((o2.mono (by simp)).trans (op.mono (by simp)))⟩
      · rw [toTs_app]
        exact paired_app (paired_oth (paired_oth pv o2) op) (.cons (t2.oth op) .nil)
      · rw [deps_app]; simp only [Tp.deps]; omega
      · rw [cnts_app, e3]; simp only [Tp.cnts]; omega
    · exact ⟨_, ts, vs, rfl, bx1, hp1, pv, d1, by omega, by omega, f1, y1, o1⟩
  · obtain ⟨x6, ts, vs, rfl, bx1, hp1, pv, d1, c1, l1, f1, y1, o1⟩ := hW
    have hm : (1 + m).toNat ≤ 3 := by omega
    have hc : Tp.cnts ts ≤ 3 * numT r := Nat.le_trans c1 (Nat.mul_le_mul_right _ hm)
    refine ⟨_, rfl, .inl ⟨p, _, rfl, SqL.of hp1, fun t ht => ?_⟩⟩
    have ot := Oth.new (S := [b, pl]) (o := .tup vs) ht
    refine q ts _ _ d1 hc f1 y1 (.mk upd_same (paired_oth pv ot)) (bx1.new ht) (Oth.trans ?_ ot)
    exact Oth.drop (p := p) (o1.mono (by simp)) hp
theorem ok_box {f fD : Addr} {fd dD : FuncData} {k : Nat} (F : Fun K "_law_box" "_law_box" sBox f fd)
    (GD : FnOk P w K mg base CX0 k fD dD ["script", "first", "last"] (spDigits K)) (bD : Binds K dD ["script", "first", "last"] []) (kD : PySem.W.keepIn K (.ref fD) = true) (mD : mg "_law_digits" = some (.ref fD)) :
    FnOk P w K mg base CX0 (k + 1) f fd ["script", "first", "last"] (spBox K) := by
  refine F.ok scBox (fun vs H Q E h => ?_) (fun cdv A outer s H vs Q E' hr h => ?_)
  · obtain ⟨a, ns, i, j, rfl, _⟩ := h
    rfl
  obtain ⟨a, ns, i, j, rfl, hS, hi, hj, q⟩ := h
  have nd := scBox.nd
  refine ⟨_, (pss_one (ps_ret (pe_lst (pa_cons (pe_call GD hr rfl mD kD bD .nil pass0 (pa_cons (pv 0) (pa_cons (pv 1) (pa_cons (pv 2) pa_nil)))) (pa_cons pe_int (pa_cons pe_int (pa_cons pe_int (pa_cons pe_int (pa_cons (pe_lst pa_nil) pa_nil))))))))), ?_⟩
  refine ⟨_, rfl, _, rfl, _, rfl, a, ns, i, j, rfl, hS, hi, hj, fun d H1 ds hd o1 e1 => ⟨sz, fun pl hp => ⟨sz, fun b hb => ?_⟩⟩⟩
  have ndp : d ≠ pl := ne_of_none e1 hp
  have o2 := Oth.new (S := []) (o := .lst []) hp
  have ndb : d ≠ b := ne_of_none (o2.keep d _ (by simp) e1) hb
  have npb : pl ≠ b := ne_of_none (upd_same : (upd H1 pl (.lst [])) pl = _) hb
  have o3 := Oth.new (S := []) (o := .lst [.ref d, .int 0, .int 0, .int 0, .int 0, .ref pl]) hb
  refine q b d pl _ ?_ (o1.trans (o2.trans o3)) ⟨⟨0, 0, 0, ds, 0, upd_same, o3.keep d _ (by simp) (o2.keep d _ (by simp) e1)⟩, ⟨[], o3.keep pl _ (by simp) upd_same, by simp, by simp⟩, ndp.symm⟩
  cases e : H b with
  | none => rfl
  | some o => rw [o2.keep b _ (by simp) (o1.keep b _ (by simp) e)] at hb; cases hb
end
end Pw
namespace Pw
open PySem PySem.Spec PyProof.Rows L2
abbrev sActions : Stmt := topS 24
theorem scActions : FnScope ["box", "actions", "k", "steps", "j", "kind"] ["box"] (defScope sActions) := ⟨rfl, rfl, rfl, by decide +kernel, rfl, by decide +kernel, by decide +kernel⟩
section
variable {P : Program} {w : World} {K : PySem.W.Frag} {mg : Str → Option Value} {base : Heap}
theorem ok_actions {f fE fR : Addr} {fd dE dR : FuncData} {k : Nat} (F : Fun K "_law_actions" "_law_actions" sActions f fd)
    (GE : FnOk P w K mg base CX0 k fE dE ["box", "depth"] (spExpr1 2)) (bE : Binds K dE ["box", "depth"] []) (kE : PySem.W.keepIn K (.ref fE) = true) (mE : mg "_law_expr" = some (.ref fE))
    (GR : FnOk P w K mg base CX0 k fR dR ["box", "many"] spDrawX) (bR : Binds K dR ["box", "many"] []) (kR : PySem.W.keepIn K (.ref fR) = true) (mR : mg "_law_draw" = some (.ref fR))
    (m_range : mg "range" = none) (m_tuple : mg "tuple" = none) :
    FnOk P w K mg base CX0 (k + 1) f fd ["box"] spActions1 := by
  refine F.ok scActions (fun vs H Q E h => ?_) (fun cdv A outer s H vs Q E' hr h => ?_)
  · obtain ⟨b, dg, pl, rfl, _⟩ := h
    rfl
  obtain ⟨b, dg, pl, rfl, bx, q⟩ := h
  have nd := scActions.nd
  refine ⟨_, (pss_cons (ps_set (i := 1) nd rfl (.inl rfl) (pe_lst pa_nil))
  (pss_cons (ps_for PassesOwn.never rfl (pi_range1 (by rfl) m_range (pa_cons pe_int pa_nil)) (pg_name (i := 2) nd rfl (.inl rfl))
  (pss_cons (ps_set (i := 3) nd rfl (.inl rfl) (pe_lst pa_nil))
  (pss_cons (ps_for PassesOwn.never rfl (pi_range1 (by rfl) m_range (pa_cons (pe_op op_add pe_int (pe_call GR hr rfl mR kR bR .nil pass0 (pa_cons (pv 0) (pa_cons pe_int pa_nil)))) pa_nil)) (pg_name (i := 4) nd rfl (.inl rfl))
  (pss_cons (ps_set (i := 5) nd rfl (.inl rfl) (pe_call GR hr rfl mR kR bR .nil pass0 (pa_cons (pv 0) (pa_cons pe_int pa_nil))))
  (pss_one (ps_if (pt_cmpR op_lt (pv 5) pe_int (nomark _))
  (pss_one (ps_expr (pe_bm PySem.F.plainAttrs_list PySem.F.slot_list_append PySem.F.type_list_append mt_append (pv 3) (pa_cons (pe_tup (pa_cons pe_str (pa_cons (pe_call GR hr rfl mR kR bR .nil pass0 (pa_cons (pv 0) (pa_cons pe_int pa_nil))) (pa_cons (pe_call GE hr rfl mE kE bE .nil pass0 (pa_cons (pv 0) (pa_cons pe_int pa_nil))) pa_nil)))) pa_nil))))
  (pss_one (ps_if (pt_cmpR op_lt (pv 5) pe_int (nomark _))
  (pss_one (ps_expr (pe_bm PySem.F.plainAttrs_list PySem.F.slot_list_append PySem.F.type_list_append mt_append (pv 3) (pa_cons (pe_tup (pa_cons pe_str (pa_cons (pe_call GR hr rfl mR kR bR .nil pass0 (pa_cons (pv 0) (pa_cons pe_int pa_nil))) (pa_cons (pe_call GE hr rfl mE kE bE .nil pass0 (pa_cons (pv 0) (pa_cons pe_int pa_nil))) pa_nil)))) pa_nil))))
  (pss_one (ps_expr (pe_bm PySem.F.plainAttrs_list PySem.F.slot_list_append PySem.F.type_list_append mt_append (pv 3) (pa_cons (pe_tup (pa_cons pe_str (pa_cons (pe_call GR hr rfl mR kR bR .nil pass0 (pa_cons (pv 0) (pa_cons pe_int pa_nil))) pa_nil))) pa_nil))))))))))
  (pss_one (ps_expr (pe_bm PySem.F.plainAttrs_list PySem.F.slot_list_append PySem.F.type_list_append mt_append (pv 1) (pa_cons (pe_tupleOf (by rfl) m_tuple (pv 3)) pa_nil)))))))
  (pss_one (ps_ret (pe_tupleOf (by rfl) m_tuple (pv 1)))))), ?_⟩
  refine ⟨sz, fun p hp => ?_⟩
  have nbp := bx.nb hp
  have npp := bx.npn hp
  have ndp := bx.ndn hp
  refine ⟨_, rfl, by decide, by decide, for_range (lo := 0) (n := 2)
    (fun i σ H1 => ∃ (x2 x3 x4 x5 : Option V) (vs : List V) (ts : List T), σ = [some (.ref b), some (.ref p), x2, x3, x4, x5] ∧ Bx H1 b dg pl ∧ H1 p = some (.lst vs) ∧ Paired (IsT H1) ts vs ∧ RowOk 91 7 ts ∧ ts.length ≤ i ∧ Oth [b, p] H H1)
    ⟨none, none, none, none, [], [], rfl, bx.new hp, upd_same, .nil, .nil, Nat.zero_le _, Oth.new hp⟩ (fun i σ H1 hi hW => ?_) (fun σ H1 hW => ?_)⟩
  · obtain ⟨x2, x3, x4, x5, vs, ts, rfl, bx1, hp1, pv, ro, lt, o1⟩ := hW
    have lv : vs.length ≤ i := by rw [(paired_get pv).1]; exact lt
    refine ⟨sz, fun p2 hp2 => ?_⟩
    have nb2 := bx1.nb hp2
    have np2 := bx1.npn hp2
    have nd2 := bx1.ndn hp2
    have npp2 : p ≠ p2 := ne_of_none hp1 hp2
    refine ⟨_, rfl, b, dg, pl, _, rfl, by decide, bx1.new hp2, fun m H2 l0 u0 bx2 o2 => ⟨_, _, rfl, rfl, ?_⟩⟩
    refine ⟨_, rfl, by omega, by omega, for_range (lo := 0) (n := (1 + m).toNat)
      (fun j σ H3 => ∃ (x4 x5 : Option V) (us : List V) (ks : List T), σ = [some (.ref b), some (.ref p), some (.int (0 + (i : Int))), some (.ref p2), x4, x5] ∧ Bx H3 b dg pl ∧ H3 p2 = some (.lst us) ∧ Paired (IsT H3) ks us ∧ RowOk 45 6 ks ∧ ks.length ≤ j ∧ Oth [b, p2] H1 H3)
      ⟨x4, x5, [], [], rfl, bx2, bx1.lit hp2 o2, .nil, .nil, Nat.zero_le _, (Oth.new hp2).trans (o2.mono (by simp))⟩ (fun j σ H3 hj hW => ?_) (fun σ H3 hW => ?_)⟩
    · obtain ⟨x4, x5, us, ks, rfl, bx3, hp3, pu, ru, lk, o3⟩ := hW
      have lu : us.length ≤ j := by rw [(paired_get pu).1]; exact lk
      have fin : ∀ (t : T) (v : V) (H4 : Hp), t.slim ∧ t.bulk + 1 ≤ 45 ∧ Dep 6 t → IsT H4 t v → Bx H4 b dg pl → Oth [b] H3 H4 → H4 p2 = some (.lst us) ∧ us.length < sizeLine ∧ Bx (upd H4 p2 (.lst (us ++ [v]))) b dg pl ∧ Oth [b, p2] H1 (upd H4 p2 (.lst (us ++ [v]))) ∧ (Paired (IsT (upd H4 p2 (.lst (us ++ [v])))) (ks ++ [t]) (us ++ [v]) ∧ RowOk 45 6 (ks ++ [t]) ∧ (ks ++ [t]).length ≤ j + 1) := fun t v H4 kt tv bx4 o4 => by
        have hp4 := o4.keep p2 _ (by simp [nb2.symm]) hp3
        have op : Oth [p2] H4 (upd H4 p2 (.lst (us ++ [v]))) := Oth.put (by simp) hp4
        exact ⟨hp4, Nat.lt_of_le_of_lt (by omega : us.length ≤ 1000) (by decide), bx4.oth op (by simp [nb2]) (by simp [nd2]) (by simp [np2]), o3.trans ((o4.mono (by simp)).trans (op.mono (by simp))), paired_app (paired_oth (paired_oth pu o4) op) (.cons (tv.oth op) .nil), ru.snoc kt.1 kt.2.1 kt.2.2, by simp; omega⟩
      refine ⟨_, rfl, b, dg, pl, _, rfl, by decide, bx3, fun kind H4 l4 u4 bx4 o4 => ?_⟩
      have pair : ∀ (s : Str) (r : Int) (v : V) (H5 H6 : Hp) (t : Addr), Bx H6 b dg pl → Oth [b] H4 H6 → H6 t = none → True := fun _ _ _ _ _ _ _ _ _ => trivial
      refine ⟨_, rfl, _, _, rfl, rfl, _, rfl, ite2 (fun c => ?_) (fun c => ⟨_, rfl, _, _, rfl, rfl, _, rfl, ite2 (fun c => ?_) (fun c => ?_)⟩)⟩
      · have hp4 := o4.keep p2 _ (by simp [nb2.symm]) hp3
        refine ⟨_, rfl, .inl ⟨rfl, _, SqL.of hp4⟩, _, rfl, b, dg, pl, _, rfl, by decide, bx4, fun r5 H5 l5 u5 bx5 o5 => ⟨_, rfl, b, dg, pl, 1, rfl, by decide, bx5, fun e v H6 d6 z6 t6 bx6 o6 => ⟨sz, fun t ht => ?_⟩⟩⟩
        obtain ⟨g1, g2, g3, g4, g5⟩ := fin (.tup [.str "set", .int r5, e.toT]) (.ref t) _ (step_ok (by decide) (by decide) l5 (by omega) z6 d6) (.mk3 upd_same (.str _) (.int _) (t6.oth (Oth.new (S := []) ht))) (bx6.new (o := .tup [.str "set", .int r5, v]) ht) (o4.trans (o5.trans (o6.trans (Oth.new ht))))
        exact ⟨p2, _, _, rfl, rfl, g1, g2, _, _, _, _, rfl, g3, upd_same, g5.1, g5.2.1, g5.2.2, g4⟩
      · have hp4 := o4.keep p2 _ (by simp [nb2.symm]) hp3
        refine ⟨_, rfl, .inl ⟨rfl, _, SqL.of hp4⟩, _, rfl, b, dg, pl, _, rfl, by decide, bx4, fun r5 H5 l5 u5 bx5 o5 => ⟨_, rfl, b, dg, pl, 1, rfl, by decide, bx5, fun e v H6 d6 z6 t6 bx6 o6 => ⟨sz, fun t ht => ?_⟩⟩⟩
        obtain ⟨g1, g2, g3, g4, g5⟩ := fin (.tup [.str "put", .int r5, e.toT]) (.ref t) _ (step_ok (by decide) (by decide) l5 (by omega) z6 d6) (.mk3 upd_same (.str _) (.int _) (t6.oth (Oth.new (S := []) ht))) (bx6.new (o := .tup [.str "put", .int r5, v]) ht) (o4.trans (o5.trans (o6.trans (Oth.new ht))))
        exact ⟨p2, _, _, rfl, rfl, g1, g2, _, _, _, _, rfl, g3, upd_same, g5.1, g5.2.1, g5.2.2, g4⟩
      · have hp4 := o4.keep p2 _ (by simp [nb2.symm]) hp3
        refine ⟨_, rfl, .inl ⟨rfl, _, SqL.of hp4⟩, _, rfl, b, dg, pl, _, rfl, by decide, bx4, fun r5 H5 l5 u5 bx5 o5 => ⟨sz, fun t ht => ?_⟩⟩
        obtain ⟨g1, g2, g3, g4, g5⟩ := fin (.tup [.str "up", .int r5]) (.ref t) _ (step_up l5 (by omega)) (.mk2 upd_same (.str _) (.int _)) (bx5.new (o := .tup [.str "up", .int r5]) ht) (o4.trans (o5.trans (Oth.new ht)))
        exact ⟨p2, _, _, rfl, rfl, g1, g2, _, _, _, _, rfl, g3, upd_same, g5.1, g5.2.1, g5.2.2, g4⟩
    · obtain ⟨x4, x5, us, ks, rfl, bx3, hp3, pu, ru, lk, o3⟩ := hW
      have lu : us.length ≤ 2 := by rw [(paired_get pu).1]; omega
      have o3' := Oth.drop2 o3 hp2
      have hpk := o3'.keep p _ (by simp [nbp.symm]) hp1
      refine ⟨_, rfl, .inl ⟨rfl, _, SqL.of hpk⟩, _, rfl, .inl ⟨p2, _, rfl, SqL.of hp3, fun t ht => ?_⟩⟩
      have ot := Oth.new (S := [b]) (o := .tup us) ht
      have hpt := ot.keep p _ (by simp [nbp.symm]) hpk
      have op : Oth [p] (upd H3 t (.tup us)) (upd (upd H3 t (.tup us)) p (.lst (vs ++ [.ref t]))) := Oth.put (by simp) hpt
      refine ⟨p, _, _, rfl, rfl, hpt, Nat.lt_of_le_of_lt (by omega : vs.length ≤ 1000) (by decide), ?_⟩
      obtain ⟨q1, q2, q3⟩ := ru.tup (by omega)
      exact ⟨_, _, _, _, vs ++ [.ref t], ts ++ [.tup ks], rfl, (bx3.new ht).oth op (by simp [nbp]) (by simp [ndp]) (by simp [npp]), upd_same, paired_app (paired_oth (paired_oth (paired_oth pv o3') ot) op) (.cons (.mk (op.tup _ _ upd_same) (paired_oth (paired_oth pu ot) op)) .nil), ro.snoc q1 (by omega) q3, by simp; omega, o1.trans ((o3'.mono (by simp)).trans ((ot.mono (by simp)).trans (op.mono (by simp))))⟩
  · obtain ⟨x2, x3, x4, x5, vs, ts, rfl, bx1, hp1, pv, ro, lt, o1⟩ := hW
    refine ⟨_, rfl, .inl ⟨p, _, rfl, SqL.of hp1, fun t ht => ?_⟩⟩
    obtain ⟨q1, q2, q3⟩ := ro.tup (by omega)
    have ot := Oth.new (S := []) (o := .tup vs) ht
    exact q (.tup ts) _ _ ⟨q1, by omega, q3.mono (by decide)⟩ (.mk upd_same (paired_oth pv ot)) (bx1.new ht) ((Oth.drop2 o1 hp).trans (Oth.new ht))
end
end Pw
namespace Pw
open PySem PySem.Spec PyProof.Rows L2
abbrev sProgram : Stmt := topS 25
theorem scProgram : FnScope ["box", "many", "parts", "components", "k", "cells", "contents", "store", "j"] ["box"] (defScope sProgram) := ⟨rfl, rfl, rfl, by decide +kernel, rfl, by decide +kernel, by decide +kernel⟩
section
variable {P : Program} {w : World} {K : PySem.W.Frag} {mg : Str → Option Value} {base : Heap}
theorem ok_program {f fR fN fA : Addr} {fd dR dN dA : FuncData} {k : Nat} (F : Fun K "_law_program" "_law_program" sProgram f fd)
    (GR : FnOk P w K mg base CX0 k fR dR ["box", "many"] spDrawX) (bR : Binds K dR ["box", "many"] []) (kR : PySem.W.keepIn K (.ref fR) = true) (mR : mg "_law_draw" = some (.ref fR))
    (GN : FnOk P w K mg base CX0 k fN dN ["box", "own", "level", "last", "free"] (spContents1 4)) (bN : Binds K dN ["box", "own", "level", "last", "free"] []) (kN : PySem.W.keepIn K (.ref fN) = true) (mN : mg "_law_contents" = some (.ref fN))
    (GA : FnOk P w K mg base CX0 k fA dA ["box"] spActions1) (bA : Binds K dA ["box"] []) (kA : PySem.W.keepIn K (.ref fA) = true) (mA : mg "_law_actions" = some (.ref fA))
    (m_range : mg "range" = none) (m_tuple : mg "tuple" = none) (m_list : mg "list" = none) (m_len : mg "len" = none) (m_max : mg "max" = none) :
    FnOk P w K mg base CX0 (k + 1) f fd ["box"] spProgram1 := by
  refine F.ok scProgram (fun vs H Q E h => ?_) (fun cdv A outer s H vs Q E' hr h => ?_)
  · obtain ⟨b, dg, pl, rfl, _⟩ := h
    rfl
  obtain ⟨b, dg, pl, rfl, bx, q⟩ := h
  have nd := scProgram.nd
  refine ⟨_, (pss_cons (ps_set (i := 1) nd rfl (.inl rfl) (pe_op op_add pe_int (pe_call GR hr rfl mR kR bR .nil pass0 (pa_cons (pv 0) (pa_cons pe_int pa_nil)))))
  (pss_cons (ps_setLc (i := 2) (own := [("k", 4)]) (g := gName 4) (tt := tYes) rfl nd rfl rfl (sw_true rfl rfl rfl (by decide +kernel)) (pi_range1 (by rfl) m_range (pa_cons (pe_call GR hr rfl mR kR bR .nil pass0 (pa_cons (pv 0) (pa_cons pe_int pa_nil))) pa_nil)) (blkOk_by (N := ["box", "many", "parts", "components", "k", "cells", "contents", "store", "j"]) (sc := defScope sProgram) (by decide +kernel)) (fun _ _ _ _ _ => (pg_name (i := 4) nd rfl (.inl rfl))) (fun _ _ _ _ _ => pts_nil) (fun _ _ _ _ _ => (pe_op op_add pe_int (pe_call GR hr rfl mR kR bR .nil pass0 (pa_cons (pv 0) (pa_cons pe_int pa_nil))))))
  (pss_cut (ps_if (pt_cmpR op_gt (pe_callB call_len_seq (by rfl) m_len PySem.boot_len (pa_cons (pv 2) pa_nil)) pe_int (nomark _))
  (pss_one (ps_set (i := 1) nd rfl (.inl rfl) (pe_callB (call_max2 rfl) (by rfl) m_max bo_max (pa_cons (pv 1) (pa_cons pe_int pa_nil)))))
  pss_nil)
  (pss_cons (ps_set (i := 3) nd rfl (.inl rfl) (pe_lst pa_nil))
  (pss_cons (ps_for PassesOwn.never rfl (pi_range1 (by rfl) m_range (pa_cons (pv 1) pa_nil)) (pg_name (i := 4) nd rfl (.inl rfl))
  (pss_cons (ps_asg pe_int (pg_sub (pv 0) pe_int set_list))
  (pss_cons (ps_asg pe_int (pg_sub (pv 0) pe_int set_list))
  (pss_cons (ps_asg pe_int (pg_sub (pv 0) pe_int set_list))
  (pss_cons (ps_asg (pe_listRg rfl (by rfl) m_list (prg_1 (by rfl) m_range (pe_callB call_len_seq (by rfl) m_len PySem.boot_len (pa_cons (pv 2) pa_nil)))) (pg_sub (pv 0) pe_int set_list))
  (pss_cut (ps_if (pt_cmpR op_gt (pv 4) pe_int (nomark _))
  (pss_one (ps_asg (pe_lst pa_nil) (pg_sub (pv 0) pe_int set_list)))
  pss_nil)
  (pss_cons (ps_set (i := 5) nd rfl (.inl rfl) (pe_tupleOf (by rfl) m_tuple (pe_lc (own := [("j", 8)]) (g := gName 8) (tt := tYes) rfl nd (pi_range1 (by rfl) m_range (pa_cons (pe_call GR hr rfl mR kR bR .nil pass0 (pa_cons (pv 0) (pa_cons pe_int pa_nil))) pa_nil)) (blkOk_by (N := ["box", "many", "parts", "components", "k", "cells", "contents", "store", "j"]) (sc := defScope sProgram) (by decide +kernel)) (fun _ _ _ _ _ => (pg_name (i := 8) nd rfl (.inl rfl))) (fun _ _ _ _ _ => pts_nil) (fun _ _ _ _ _ => (pe_call GR hr rfl mR kR bR .nil pass0 (pa_cons (pv 0) (pa_cons pe_int pa_nil)))))))
  (pss_cons (ps_set (i := 6) nd rfl (.inl rfl) (pe_op op_catA (pe_call GN hr rfl mN kN bN .nil pass0 (pa_cons (pv 0) (pa_cons (pv 4) (pa_cons pe_int (pa_cons (pe_op op_sub (pv 1) pe_int) (pa_cons pe_bl pa_nil)))))) (pe_call GN hr rfl mN kN bN .nil pass0 (pa_cons (pv 0) (pa_cons (pv 4) (pa_cons pe_int (pa_cons (pe_op op_sub (pv 1) pe_int) (pa_cons pe_bl pa_nil))))))))
  (pss_cons (ps_set (i := 6) nd rfl (.inl rfl) (pe_op op_catA (pv 6) (pe_tupleOf (by rfl) m_tuple (pe_lc (own := [("j", 8)]) (g := gName 8) (tt := tYes) rfl nd (pi_list (pe_ix ix_list (pv 0) pe_int (fun _ _ => rfl))) (blkOk_by (N := ["box", "many", "parts", "components", "k", "cells", "contents", "store", "j"]) (sc := defScope sProgram) (by decide +kernel)) (fun _ _ _ _ _ => (pg_name (i := 8) nd rfl (.inl rfl))) (fun _ _ _ _ _ => pts_nil) (fun _ _ _ _ _ => (pe_tup (pa_cons pe_str (pa_cons (pv 8) pa_nil))))))))
  (pss_one (ps_expr (pe_bm PySem.F.plainAttrs_list PySem.F.slot_list_append PySem.F.type_list_append mt_append (pv 3) (pa_cons (pe_tup (pa_cons pe_str (pa_cons (pv 5) (pa_cons (pv 6) (pa_cons (pe_call GA hr rfl mA kA bA .nil pass0 (pa_cons (pv 0) pa_nil)) pa_nil))))) pa_nil)))))))))))))
  (pss_cons (ps_set (i := 7) nd rfl (.inl rfl) (pe_tupleOf (by rfl) m_tuple (pe_lc (own := [("k", 4)]) (g := gName 4) (tt := tYes) rfl nd (pi_range1 (by rfl) m_range (pa_cons (pe_call GR hr rfl mR kR bR .nil pass0 (pa_cons (pv 0) (pa_cons pe_int pa_nil))) pa_nil)) (blkOk_by (N := ["box", "many", "parts", "components", "k", "cells", "contents", "store", "j"]) (sc := defScope sProgram) (by decide +kernel)) (fun _ _ _ _ _ => (pg_name (i := 4) nd rfl (.inl rfl))) (fun _ _ _ _ _ => pts_nil) (fun _ _ _ _ _ => (pe_call GR hr rfl mR kR bR .nil pass0 (pa_cons (pv 0) (pa_cons pe_int pa_nil)))))))
  (pss_one (ps_ret (pe_tup (pa_cons pe_str (pa_cons (pe_tupleOf (by rfl) m_tuple (pv 3)) (pa_cons (pv 7) (pa_cons (pe_tupleOf (by rfl) m_tuple (pv 2)) pa_nil))))))))))))), ?_⟩
  refine ⟨_, rfl, b, dg, pl, _, rfl, by decide, bx, fun m H0 l0 u0 bx0 o0 => ⟨_, _, rfl, rfl, ?_⟩⟩
  refine ⟨_, rfl, b, dg, pl, _, rfl, by decide, bx0, fun n H1 l1 u1 bx1 o1 => ⟨n, rfl, by omega, by omega, fun D hD => lc_range (lo := 0) (n := n.toNat)
    (fun j H2 => Bx H2 b dg pl ∧ ∃ vs : List Nat, H2 D = some (.lst (vs.map natV)) ∧ vs.length = j ∧ (∀ n ∈ vs, n < 16) ∧ Oth [b, D] H1 H2)
    ⟨bx1.new hD, [], upd_same, rfl, by simp, Oth.new hD⟩ (fun j H2 hj hW => ?_) (fun H2 hW => ?_)⟩⟩
  · obtain ⟨bx2, vs, hD2, lv, sv, o2⟩ := hW
    have nbD : b ≠ D := bx1.nb hD
    refine ⟨rfl, ⟨_, rfl, b, dg, pl, _, rfl, by decide, bx2, fun r H3 l3 u3 bx3 o3 => ⟨_, _, rfl, rfl, ?_⟩⟩⟩
    have hD3 := o3.keep D _ (by simp [nbD.symm]) hD2
    dsimp only
    rw [natV_toNat (by omega : 0 ≤ 1 + r)]
    have op : Oth [D] H3 (upd H3 D (.lst (vs.map natV ++ [natV (1 + r).toNat]))) := Oth.put (by simp) hD3
    exact ⟨_, hD3, small1000 (by rw [List.length_map]; omega), bx3.oth op (by simp [nbD]) (by simp [bx1.ndn hD]) (by simp [bx1.npn hD]), vs ++ [(1 + r).toNat], by rw [List.map_append]; exact upd_same, by rw [List.length_append, lv]; rfl, fun n hn => by
      rcases List.mem_append.mp hn with h | h
      · exact sv n h
      · rw [List.mem_singleton.mp h]; omega, o2.trans ((o3.mono (by simp)).trans (op.mono (by simp)))⟩
  obtain ⟨bx2, pvn, hD2, lpvn, spv, o2⟩ := hW
  obtain ⟨pv, hpv⟩ : ∃ pv, pv = pvn.map natV := ⟨_, rfl⟩
  rw [← hpv] at hD2
  have lpv : pv.length = n.toNat := by rw [hpv, List.length_map]; exact lpvn
  have nbD : b ≠ D := bx1.nb hD
  have o02 : Oth [b] H H2 := o0.trans (o1.trans (Oth.drop2 o2 hD))
  have lp2 : pv.length ≤ 2 := by omega
  refine ⟨fun σ H' => H' = H2 ∧ ∃ mz : Int, 1 ≤ mz ∧ mz ≤ 3 ∧ σ = [some (.ref b), some (.int mz), some (.ref D), none, none, none, none, none, none], ?_, ?_⟩
  · refine ⟨_, rfl, D, pv, rfl, .inl (SqL.of hD2), _, _, rfl, rfl, _, rfl, ite2 (fun c => ?_) (fun c => ?_)⟩
    · refine ⟨_, rfl, _, _, rfl, ?_⟩
      exact ⟨rfl, if (3 : Int) > 1 + m then 3 else 1 + m, by split <;> omega, by split <;> omega, rfl⟩
    · exact ⟨rfl, 1 + m, by omega, by omega, rfl⟩
  rintro σ H' ⟨rfl, mz, z1, z3, rfl⟩
  refine ⟨sz, fun pC hC => ?_⟩
  have nbC := bx2.nb hC
  have ndC := bx2.ndn hC
  have nDC : D ≠ pC := ne_of_none hD2 hC
  refine ⟨_, rfl, mz, rfl, by omega, by omega, for_range (lo := 0) (n := mz.toNat)
    (fun i σ H3 => ∃ (x4 x5 x6 x7 x8 : Option V) (pl' : Addr) (cs : List V) (cms : List Cm), σ = [some (.ref b), some (.int mz), some (.ref D), some (.ref pC), x4, x5, x6, x7, x8] ∧ Bx H3 b dg pl' ∧ pl' ≠ pC ∧ H3 D = some (.lst pv) ∧ H3 pC = some (.lst cs) ∧ Paired (IsT H3) (cms.map Cm.toT) cs ∧ (∀ c ∈ cms, c.Good 0) ∧ cms.length = i ∧ Oth [b, pC] H' H3)
    ⟨none, none, none, none, none, pl, [], [], rfl, bx2.new hC, bx2.npn hC, by rw [upd_ne nDC]; exact hD2, upd_same, .nil, by simp, rfl, Oth.new hC⟩ (fun i σ H3 hi hW => ?_) (fun σ H3 hW => ?_)⟩
  · obtain ⟨x4, x5, x6, x7, x8, pl1, cs, cms, rfl, bx3, np3, hD3, hC3, pcs, gcs, lcm, o3⟩ := hW
    have lcs : cs.length = i := by rw [(paired_get pcs).1, List.length_map]; exact lcm
    obtain ⟨a3, n2, n3, n4, hb3⟩ := bx3.get
    refine ⟨_, rfl, b, _, 2, 2, rfl, rfl, hb3, rfl, ?_⟩
    have bx4 := bx3.put a3 6 n3 n4
    refine ⟨_, rfl, b, _, 3, 3, rfl, rfl, upd_same, rfl, ?_⟩
    have bx5 := bx4.put a3 6 2 n4
    refine ⟨_, rfl, b, _, 4, 4, rfl, rfl, upd_same, rfl, ?_⟩
    have bx6 := bx5.put a3 6 2 1
    have p1 : Oth [b] H3 (upd H3 b (.lst [.ref dg, .int (a3 : Int), .int 6, .int n3, .int n4, .ref pl1])) := Oth.put (by simp) hb3
    have p2 := p1.trans (Oth.put (b := b) (o := .lst [.ref dg, .int (a3 : Int), .int 6, .int 2, .int n4, .ref pl1]) (by simp) upd_same)
    have p3 := p2.trans (Oth.put (b := b) (o := .lst [.ref dg, .int (a3 : Int), .int 6, .int 2, .int 1, .ref pl1]) (by simp) upd_same)
    have hD6 := p3.keep D _ (by simp [nbD.symm]) hD3
    refine ⟨_, rfl, D, pv, rfl, .inl (SqL.of hD6), _, rfl, RgOk.of_le (by decide) (by omega) (by decide) (by omega), fun q5 hq5 => ?_⟩
    have hb6 := (Oth.new (S := []) (o := .lst (rgV 0 (pv.length : Int))) hq5).keep b _ (by simp) upd_same
    refine ⟨_, rfl, b, _, 5, 5, rfl, rfl, hb6, rfl, ?_⟩
    have bx7 := bx6.swap hq5 (List.range pv.length) ⟨by rw [List.length_range]; exact lp2, fun n hn => by have := List.mem_range.mp hn; omega⟩ a3 6 2 1
    rw [← rgV_nat] at bx7
    have p4 := p3.trans ((Oth.new (S := [b]) (o := .lst (rgV 0 (pv.length : Int))) hq5).trans (Oth.put (b := b) (o := .lst [.ref dg, .int (a3 : Int), .int 6, .int 2, .int 1, .ref q5]) (by simp) hb6))
    have f5 := bx6.fresh p3 hq5
    refine ⟨fun σ H' => σ = [some (.ref b), some (.int mz), some (.ref D), some (.ref pC), some (.int (0 + (i : Int))), x5, x6, x7, x8] ∧ ∃ pl2, H3 pl2 = none ∧ Bx H' b dg pl2 ∧ Oth [b] H3 H', ?_, ?_⟩
    · refine ⟨_, rfl, _, _, rfl, rfl, _, rfl, ite2 (fun c => ?_) (fun c => ?_)⟩
      · refine ⟨sz, fun q6 hq6 => ?_⟩
        have hb7 := (Oth.new (S := []) (o := .lst []) hq6).keep b _ (by simp) upd_same
        refine ⟨_, rfl, b, _, 5, 5, rfl, rfl, hb7, rfl, ?_⟩
        have bx8 := bx7.swap hq6 [] ⟨by simp, by simp⟩ a3 6 2 1
        exact ⟨rfl, q6, bx7.fresh p4 hq6, bx8, p4.trans ((Oth.new (S := [b]) (o := .lst []) hq6).trans (Oth.put (b := b) (by simp) hb7))⟩
      · exact ⟨rfl, q5, f5, bx7, p4⟩
    rintro σ H8 ⟨rfl, pl2, f2, bx8, o8⟩
    -- cells
    refine ⟨_, rfl, b, dg, pl2, _, rfl, by decide, bx8, fun n9 H9 l9 u9 bx9 o9 => ⟨n9, rfl, by omega, by omega, fun D1 hD1 => lc_range (lo := 0) (n := n9.toNat)
      (fun j H2 => Bx H2 b dg pl2 ∧ ∃ vs : List Nat, H2 D1 = some (.lst (vs.map natV)) ∧ vs.length = j ∧ (∀ n ∈ vs, n < 16) ∧ Oth [b, D1] H9 H2)
      ⟨bx9.new hD1, [], upd_same, rfl, by simp, Oth.new hD1⟩ (fun j H2 hj hW => ?_) (fun H10 hW => ?_)⟩⟩
    · obtain ⟨bx2, vs, hD2, lv, sv, o2⟩ := hW
      have nbD1 : b ≠ D1 := bx9.nb hD1
      refine ⟨rfl, ⟨_, rfl, b, dg, pl2, _, rfl, by decide, bx2, fun r H3 l3 u3 bx3 o3 => ?_⟩⟩
      have hD3 := o3.keep D1 _ (by simp [nbD1.symm]) hD2
      try dsimp only
      rw [natV_toNat l3]
      have op : Oth [D1] H3 (upd H3 D1 (.lst (vs.map natV ++ [natV r.toNat]))) := Oth.put (by simp) hD3
      exact ⟨_, hD3, small1000 (by rw [List.length_map]; omega), bx3.oth op (by simp [nbD1]) (by simp [bx9.ndn hD1]) (by simp [bx9.npn hD1]), vs ++ [r.toNat], by rw [List.map_append]; exact upd_same, by rw [List.length_append, lv]; rfl, fun n hn => by
        rcases List.mem_append.mp hn with h | h
        · exact sv n h
        · rw [List.mem_singleton.mp h]; omega, o2.trans ((o3.mono (by simp)).trans (op.mono (by simp)))⟩
    obtain ⟨bx10, cvn, hD10, lcv, scv, o10⟩ := hW
    obtain ⟨cv, hcv⟩ : ∃ cv, cv = cvn.map natV := ⟨_, rfl⟩
    rw [← hcv] at hD10
    have o10' := Oth.drop2 o10 hD1
    refine .inl ⟨D1, _, rfl, SqL.of hD10, fun tc htc => ?_⟩
    have oc := Oth.new (S := [b]) (o := .tup cv) htc
    -- contents
    obtain ⟨mn, rfl⟩ : ∃ mn : Nat, mz = ((mn : Nat) : Int) + 1 := ⟨(mz - 1).toNat, by omega⟩
    have hi3 : i < 3 := by omega
    have ea : ([V.ref b, V.int (0 + (i : Int)), V.int 0, V.int ((mn : Int) + 1 - 1), V.bl true] : List V) = [V.ref b, V.int (i : Int), V.int ((0 : Nat) : Int), V.int (mn : Int), V.bl true] := by
      rw [show (0 : Int) + (i : Int) = (i : Int) by omega, show (mn : Int) + 1 - 1 = (mn : Int) by omega]
      rfl
    refine ⟨_, rfl, _, rfl, _, rfl, _, _, rfl, rfl, b, dg, pl2, i, 0, mn, 3, true, ea, rfl, by decide, by omega, bx10.new htc, fun ts1 v1 H11 d1 c1 f1 y1 t1 bx11 o11 => ?_⟩
    refine ⟨_, rfl, _, rfl, _, rfl, _, _, rfl, rfl, b, dg, pl2, i, 0, mn, 3, true, ea, rfl, by decide, by omega, bx11, fun ts2 v2 H12 d2 c2 f2' y2 t2 bx12 o12 => ?_⟩
    have c1' : Tp.cnts ts1 ≤ 777 := c1
    have c2' : Tp.cnts ts2 ≤ 777 := c2
    have n1 := Tp.cnts_len ts1
    have n2 := Tp.cnts_len ts2
    obtain ⟨a1, xs1, rfl, e1, q1⟩ := (t1.oth o12).inv
    obtain ⟨a2, xs2, rfl, e2, q2⟩ := t2.inv
    have x1 : xs1.length ≤ 777 := by rw [(paired_get q1).1, Tp.toTs_map, List.length_map]; omega
    have x2' : xs2.length ≤ 777 := by rw [(paired_get q2).1, Tp.toTs_map, List.length_map]; omega
    refine cat_t e1 e2 (by omega) fun a12 H13 o13 e13 => ?_
    have q12 : Paired (IsT H13) (Tp.toTs (ts1 ++ ts2)) (xs1 ++ xs2) := by
      rw [toTs_app]
      exact paired_app (paired_oth q1 o13) (paired_oth q2 o13)
    -- the parts that are left
    have bx13 := bx12.oth o13 (by simp) (by simp) (by simp)
    obtain ⟨a13, w2, w3, w4, hb13⟩ := bx13.get
    obtain ⟨ps, hp13, lps⟩ := bx13.parts
    refine ⟨_, rfl, _, rfl, b, _, _, _, rfl, rfl, SqL.of hb13, at5, pl2, rfl, ⟨_, SqL.of hp13⟩, fun D2 hD2' => lc_list (xs := ps.map natV)
      (fun j H2 => H2 pl2 = some (.lst (ps.map natV)) ∧ ∃ (us : List Nat) (vs : List V), H2 D2 = some (.lst vs) ∧ Paired (IsT H2) (Tp.toTs (us.map Tp.part)) vs ∧ us.length = j ∧ (∀ n ∈ us, n < 16) ∧ Oth [D2] H13 H2)
      ⟨(Oth.new (S := []) hD2').keep _ _ (by simp) hp13, [], [], upd_same, .nil, rfl, by simp, Oth.new hD2'⟩ (fun j H2 _ hW => SqL.of hW.1) (fun j x H2 hx hW => ?_) (fun H14 hW => ?_)⟩
    · obtain ⟨h2, us, vs, hv, pq, lu, su, o2⟩ := hW
      have npD : pl2 ≠ D2 := bx13.npn hD2'
      rw [List.getElem?_map] at hx
      obtain ⟨u, gu, rfl⟩ : ∃ u, ps[j]? = some u ∧ natV u = x := by
        cases g : ps[j]? with
        | none => rw [g] at hx; cases hx
        | some u => rw [g] at hx; exact ⟨u, rfl, Option.some.inj hx⟩
      have lj : j < ps.length := (List.getElem?_eq_some_iff.mp gu).1
      refine ⟨rfl, ⟨_, rfl, sz, fun t ht => ?_⟩⟩
      have ot := Oth.new (S := [D2]) (o := .tup [.str "part", natV u]) ht
      have hv2 := (Oth.new (S := []) (o := .tup [.str "part", natV u]) ht).keep D2 _ (by simp) hv
      have op : Oth [D2] (upd H2 t (.tup [.str "part", natV u])) (upd (upd H2 t (.tup [.str "part", natV u])) D2 (.lst (vs ++ [.ref t]))) := Oth.put (by simp) hv2
      have lv : vs.length = us.length := by rw [(paired_get pq).1, Tp.toTs_map, List.length_map, List.length_map]
      refine ⟨vs, hv2, small1000 (by have := lps.1; omega), (ot.trans op).keep pl2 _ (by simp [npD]) h2, us ++ [u], vs ++ [.ref t], upd_same, ?_, by rw [List.length_append, lu]; rfl, fun n hn => by
        rcases List.mem_append.mp hn with h | h
        · exact su n h
        · rw [List.mem_singleton.mp h]; exact Nat.lt_trans (lps.2 u (List.mem_of_getElem? gu)) (by decide), o2.trans (ot.trans op)⟩
      rw [List.map_append, toTs_app]
      exact paired_app (paired_oth (paired_oth pq ot) op) (.cons (.mk2 (op.tup _ _ upd_same) (.str _) (.int _)) .nil)
    obtain ⟨h14, us, vs, hv14, pq14, lu, su, o14⟩ := hW
    have o14' : Oth [] H13 H14 := Oth.drop o14 hD2'
    have lu2 : us.length ≤ 2 := by rw [lu, List.length_map]; exact lps.1
    have lv : vs.length = us.length := by rw [(paired_get pq14).1, Tp.toTs_map, List.length_map, List.length_map]
    refine .inl ⟨D2, _, rfl, SqL.of hv14, fun t2 ht2 => ?_⟩
    have o15 := Oth.new (S := []) (o := .tup vs) ht2
    refine cat_t (o15.tup _ _ (o14'.tup _ _ e13)) upd_same (by rw [List.length_append]; omega) fun a3' H16 o16 e16 => ?_
    have q16 : Paired (IsT H16) (Tp.toTs (ts1 ++ ts2 ++ us.map Tp.part)) (xs1 ++ xs2 ++ vs) := by
      rw [toTs_app]
      exact paired_app (paired_oth (paired_oth (paired_oth q12 o14') o15) o16) (paired_oth (paired_oth pq14 o15) o16)
    have o13_16 := o13.trans (o14'.trans (o15.trans o16))
    have bx16 := bx12.oth o13_16 (by simp) (by simp) (by simp)
    have o3_16 : Oth [b] H3 H16 := by
      have z : Oth [b, pl2] H3 H16 := (o8.trans (o9.trans (o10'.trans oc))).two.trans (o11.trans (o12.trans (o13_16.mono (by simp))))
      exact Oth.drop2 z f2
    have hC16 := o3_16.keep pC _ (by simp [nbC.symm]) hC3
    -- the component
    refine ⟨_, rfl, .inl ⟨rfl, _, SqL.of hC16⟩, _, rfl, _, rfl, _, rfl, b, dg, pl2, rfl, bx16, fun ta va H17 aok tva bx17 o17 => ⟨sz, fun tp htp => ?_⟩⟩
    have on := Oth.new (S := [b]) (o := .tup [.str "component", .ref tc, .ref a3', va]) htp
    have o3_18 := o3_16.trans (o17.trans on)
    have hC18 := o3_18.keep pC _ (by simp [nbC.symm]) hC3
    refine ⟨pC, _, _, rfl, rfl, hC18, small1000 (by omega), ?_⟩
    have op : Oth [pC] _ (upd (upd H17 tp (.tup [.str "component", .ref tc, .ref a3', va])) pC (.lst (cs ++ [.ref tp]))) := Oth.put (by simp) hC18
    have np2 : pl2 ≠ pC := fun z => by rw [z, hC3] at f2; cases f2
    have gc : Cm.Good 0 ⟨cvn, ts1 ++ ts2 ++ us.map Tp.part, ta⟩ := by
      refine ⟨?_, ?_, fines_app (fines_parts us) _ (fines_app f2' _ f1), (y1.app y2).app (slims_parts us su), by show cvn.length ≤ 2; omega, scv, aok⟩
      · show Tp.deps _ ≤ 3
        rw [deps_app, deps_app, deps_parts]; omega
      · show Tp.cnts _ ≤ 1560
        rw [cnts_app, cnts_app, cnts_parts]; omega
    refine ⟨_, _, _, _, _, pl2, cs ++ [.ref tp], cms ++ [⟨cvn, ts1 ++ ts2 ++ us.map Tp.part, ta⟩], rfl, (bx17.new htp).oth op (by simp [nbC]) (by simp [ndC]) (by simp [np2]), np2, ?_, upd_same, ?_, ?_, by rw [List.length_append, lcm]; rfl, o3.trans ((o3_18.mono (by simp)).trans (op.mono (by simp)))⟩
    · exact op.keep D _ (by simp [nDC]) (o3_18.keep D _ (by simp [nbD.symm]) hD3)
    · rw [List.map_append]
      refine paired_app (paired_oth (paired_oth pcs o3_18) op) (.cons ?_ .nil)
      have htc16 : H16 tc = some (.tup (cvn.map natV)) := by
        rw [← hcv]
        exact (o11.trans (o12.trans (o13_16.mono (S' := [b, pl2]) (by simp)))).tup _ _ upd_same
      exact .mk4 (op.tup _ _ upd_same) (.str _) (.mkNats (op.tup _ _ (on.tup _ _ (o17.tup _ _ htc16)))) (.mk (op.tup _ _ (on.tup _ _ (o17.tup _ _ e16))) (paired_oth (paired_oth (paired_oth q16 o17) on) op)) ((tva.oth on).oth op)
    · intro c hc
      rcases List.mem_append.mp hc with h | h
      · exact gcs c h
      · rw [List.mem_singleton.mp h]; exact gc
  · obtain ⟨x4, x5, x6, x7, x8, pl1, cs, cms, rfl, bx3, np3, hD3, hC3, pcs, gcs, lcm, o3⟩ := hW
    refine ⟨_, rfl, b, dg, pl1, _, rfl, by decide, bx3, fun n9 H9 l9 u9 bx9 o9 => ⟨n9, rfl, by omega, by omega, fun D1 hD1 => lc_range (lo := 0) (n := n9.toNat)
      (fun j H2 => Bx H2 b dg pl1 ∧ ∃ vs : List Nat, H2 D1 = some (.lst (vs.map natV)) ∧ vs.length = j ∧ (∀ n ∈ vs, n < 16) ∧ Oth [b, D1] H9 H2)
      ⟨bx9.new hD1, [], upd_same, rfl, by simp, Oth.new hD1⟩ (fun j H2 hj hW => ?_) (fun H10 hW => ?_)⟩⟩
    · obtain ⟨bx2, vs, hD2, lv, sv, o2⟩ := hW
      have nbD1 : b ≠ D1 := bx9.nb hD1
      refine ⟨rfl, ⟨_, rfl, b, dg, pl1, _, rfl, by decide, bx2, fun r H3 l3 u3 bx3 o3 => ?_⟩⟩
      have hD3 := o3.keep D1 _ (by simp [nbD1.symm]) hD2
      try dsimp only
      rw [natV_toNat l3]
      have op : Oth [D1] H3 (upd H3 D1 (.lst (vs.map natV ++ [natV r.toNat]))) := Oth.put (by simp) hD3
      exact ⟨_, hD3, small1000 (by rw [List.length_map]; omega), bx3.oth op (by simp [nbD1]) (by simp [bx9.ndn hD1]) (by simp [bx9.npn hD1]), vs ++ [r.toNat], by rw [List.map_append]; exact upd_same, by rw [List.length_append, lv]; rfl, fun n hn => by
        rcases List.mem_append.mp hn with h | h
        · exact sv n h
        · rw [List.mem_singleton.mp h]; omega, o2.trans ((o3.mono (by simp)).trans (op.mono (by simp)))⟩
    obtain ⟨bx10, cvn, hD10, lcv, scv, o10⟩ := hW
    obtain ⟨cv, hcv⟩ : ∃ cv, cv = cvn.map natV := ⟨_, rfl⟩
    rw [← hcv] at hD10
    have o10' := Oth.drop2 o10 hD1
    have o3_10 := o9.trans o10'
    refine .inl ⟨D1, _, rfl, SqL.of hD10, fun ts hts => ?_⟩
    have o11 := Oth.new (S := [b]) (o := .tup cv) hts
    have hC11 := (o3_10.trans o11).keep pC _ (by simp [nbC.symm]) hC3
    refine ⟨_, rfl, .inl ⟨pC, _, rfl, SqL.of hC11, fun tC htC => ⟨_, rfl, ?_⟩⟩⟩
    have o12 := Oth.new (S := [b]) (o := .tup cs) htC
    have hD12 := (o3_10.trans (o11.trans o12)).keep D _ (by simp [nbD.symm]) hD3
    refine ⟨_, rfl, .inl ⟨D, _, rfl, SqL.of hD12, fun tD htD => ⟨sz, fun tP htP => ?_⟩⟩⟩
    have o13 := Oth.new (S := [b]) (o := .tup pv) htD
    have o14 := Oth.new (S := [b]) (o := .tup [.str "program", .ref tC, .ref ts, .ref tD]) htP
    have o3_14 := o3_10.trans (o11.trans (o12.trans (o13.trans o14)))
    have o10_14 := o11.trans (o12.trans (o13.trans o14))
    refine q ⟨cms, cvn, pvn⟩ _ pl1 _ ⟨gcs, ?_, by show cms.length ≤ 3; omega, by show pvn.length ≤ 2; omega, spv, by show cvn.length ≤ 2; omega, scv⟩ ?_ (((((bx10.new hts).new htC).new htD).new htP)) (o02.trans ((Oth.drop2 o3 hC).trans o3_14))
    · show cms ≠ []
      intro z
      rw [z] at lcm
      simp at lcm
      omega
    · exact .mk4 upd_same (.str _) (.mk ((o13.trans o14).tup _ _ upd_same) (paired_oth pcs o3_14)) (.mkNats (by rw [← hcv]; exact (o12.trans (o13.trans o14)).tup _ _ upd_same)) (.mkNats (by rw [← hpv]; exact o14.tup _ _ upd_same))
end
end Pw
namespace Pw
open PySem PySem.Spec PyProof.Rows L2
abbrev sListed : Stmt := topS 27
theorem scListed : FnScope ["contents", "before", "around", "rows", "k", "row", "place"] ["contents", "before", "around"] (defScope sListed) := ⟨rfl, rfl, rfl, by decide +kernel, rfl, by decide +kernel, by decide +kernel⟩
section
variable {P : Program} {w : World} {K : PySem.W.Frag} {mg : Str → Option Value} {base : Heap}
theorem ok_listed {f : Addr} {fd : FuncData} {k n : Nat} (F : Fun K "_law_listed" "_law_listed" sListed f fd)
    (GL : FnOk P w K mg base CX0 k f fd ["contents", "before", "around"] (spListed1 n)) (bL : Binds K fd ["contents", "before", "around"] []) (kL : PySem.W.keepIn K (.ref f) = true) (mL : mg "_law_listed" = some (.ref f))
    (m_range : mg "range" = none) (m_len : mg "len" = none) :
    FnOk P w K mg base CX0 (k + 1) f fd ["contents", "before", "around"] (spListed1 (n + 1)) := by
  refine F.ok scListed (fun vs H Q E h => ?_) (fun cdv A outer s H vs Q E' hr h => ?_)
  · obtain ⟨ts, pl, ar, vc, vb, aa, rfl, _⟩ := h
    rfl
  obtain ⟨ts, pl, ar, vc, vb, aa, rfl, hc, hb, ha, hd, hz, hpl, has, q⟩ := h
  have nd := scListed.nd
  refine ⟨_, (pss_cons (ps_set (i := 3) nd rfl (.inl rfl) (pe_lst pa_nil))
  (pss_cons (ps_for PassesOwn.never rfl (pi_range1 (by rfl) m_range (pa_cons (pe_callB call_len_seq (by rfl) m_len PySem.boot_len (pa_cons (pv 0) pa_nil)) pa_nil)) (pg_name (i := 4) nd rfl (.inl rfl))
  (pss_cons (ps_set (i := 5) nd rfl (.inl rfl) (pe_ix ix_tup (pv 0) (pv 4) (fun _ _ => rfl)))
  (pss_cons (ps_set (i := 6) nd rfl (.inl rfl) (pe_op op_catA (pv 1) (pe_tup (pa_cons (pv 4) pa_nil))))
  (pss_cons (ps_expr (pe_bm PySem.F.plainAttrs_list PySem.F.slot_list_append PySem.F.type_list_append mt_append (pv 3) (pa_cons (pe_lst (pa_cons (pv 6) (pa_cons (pv 5) (pa_cons (pv 2) pa_nil)))) pa_nil)))
  (pss_one (ps_if (pt_cmpR op_eq (pe_ix ix_tup (pv 5) pe_int (fun _ _ => rfl)) pe_str (nomark _))
  (pss_one (ps_set (i := 3) nd rfl (.inl rfl) (pe_op op_cat (pv 3) (pe_call GL hr rfl mL kL bL .nil pass0 (pa_cons (pe_ix ix_tup (pv 5) pe_int (fun _ _ => rfl)) (pa_cons (pv 6) (pa_cons (pe_op op_cat (pv 2) (pe_lst (pa_cons pe_str pa_nil))) pa_nil)))))))
  (pss_one (ps_if (pt_cmpR op_eq (pe_ix ix_tup (pv 5) pe_int (fun _ _ => rfl)) pe_str (nomark _))
  (pss_one (ps_set (i := 3) nd rfl (.inl rfl) (pe_op op_cat (pv 3) (pe_call GL hr rfl mL kL bL .nil pass0 (pa_cons (pe_ix ix_tup (pv 5) pe_int (fun _ _ => rfl)) (pa_cons (pv 6) (pa_cons (pe_op op_cat (pv 2) (pe_lst (pa_cons pe_str pa_nil))) pa_nil)))))))
  (pss_one (ps_if (pt_cmpR op_eq (pe_ix ix_tup (pv 5) pe_int (fun _ _ => rfl)) pe_str (nomark _))
  (pss_cons (ps_set (i := 3) nd rfl (.inl rfl) (pe_op op_cat (pv 3) (pe_call GL hr rfl mL kL bL .nil pass0 (pa_cons (pe_ix ix_tup (pv 5) pe_int (fun _ _ => rfl)) (pa_cons (pe_op op_catA (pv 6) (pe_tup (pa_cons pe_int pa_nil))) (pa_cons (pe_op op_cat (pv 2) (pe_lst (pa_cons pe_str pa_nil))) pa_nil))))))
  (pss_one (ps_set (i := 3) nd rfl (.inl rfl) (pe_op op_cat (pv 3) (pe_call GL hr rfl mL kL bL .nil pass0 (pa_cons (pe_ix ix_tup (pv 5) pe_int (fun _ _ => rfl)) (pa_cons (pe_op op_catA (pv 6) (pe_tup (pa_cons pe_int pa_nil))) (pa_cons (pe_op op_cat (pv 2) (pe_lst (pa_cons pe_str pa_nil))) pa_nil))))))))
  pss_nil))))))))))
  (pss_one (ps_ret (pv 3))))), ?_⟩
  obtain ⟨ac, xs, rfl, ec, pc⟩ := hc.inv
  obtain ⟨ab, rfl, eb⟩ := hb.ints
  have lxs := (paired_get pc).1
  rw [Tp.toTs_map, List.length_map] at lxs
  have lts := Tp.cnts_len ts
  refine ⟨sz, fun p hp => ?_⟩
  refine ⟨_, rfl, ac, xs, rfl, .inr (SqT.of ((Oth.new (S := []) hp).tup _ _ ec)), _, rfl, by omega, by omega, for_range (lo := 0) (n := ((xs.length : Nat) : Int).toNat)
    (fun i σ H1 => ∃ (x4 x5 x6 : Option V) (p : Addr) (rs : List V), σ = [some (.ref ac), some (.ref ab), some (.ref aa), some (.ref p), x4, x5, x6] ∧ LSt1 H H1 p (Tp.lst pl 0 ar (ts.take i)) rs)
    ⟨none, none, none, p, [], rfl, hp, Oth.new hp, upd_same, .nil⟩ (fun i σ H1 hi hW => ?_) (fun σ H1 hW => ?_)⟩
  · obtain ⟨x4, x5, x6, p, rs, rfl, st⟩ := hW
    have hi' : i < xs.length := by omega
    have hit : i < ts.length := by omega
    obtain ⟨t, gt⟩ : ∃ t, ts[i]? = some t := ⟨ts[i], List.getElem?_eq_getElem hit⟩
    obtain ⟨xi, gx⟩ : ∃ x, xs[i]? = some x := ⟨xs[i], List.getElem?_eq_getElem hi'⟩
    have ht : IsT H t.toT xi := (paired_get pc).2 i _ _ (by rw [Tp.toTs_map, List.getElem?_map, gt]; rfl) gx
    have all := cnts_take gt
    have tdep := deps_get gt
    rw [show (0 : Int) + (i : Int) = (i : Int) from Int.zero_add _]
    refine ⟨_, rfl, _, rfl, ac, _, _, _, rfl, rfl, SqT.of (st.oth.tup _ _ ec), atI_nat gx, ?_⟩
    refine ⟨_, rfl, _, rfl, sz, fun q1 hq1 => cat_t ((st.oth.trans (Oth.new hq1)).tup _ _ eb) upd_same (by simp; omega) fun a2 H2 o2 e2 => ?_⟩
    have st2 := st.go ((Oth.new (o := .tup [.int (i : Int)]) hq1).trans o2)
    have e2' : H2 a2 = some (.tup ((pl ++ [(i : Int)]).map V.int)) := by rw [e2, List.map_append]; rfl
    refine ⟨_, rfl, .inl ⟨rfl, _, SqL.of st2.at_⟩, _, rfl, _, rfl, _, rfl, sz, fun q3 hq3 => ?_⟩
    have st3 := st2.push (z := aa) (r := ⟨pl ++ [(i : Int)], t, ar⟩) hq3 ha (.mkInts e2') (ht.oth st2.oth)
    have lrs : rs.length ≤ 5000 := by rw [st.rows.len, Tp.lst_len]; omega
    have hpq := (st2.go (Oth.new (o := .lst [.ref a2, xi, .ref aa]) hq3)).at_
    refine ⟨p, _, _, rfl, rfl, hpq, Nat.lt_of_le_of_lt lrs (by decide), ?_⟩
    have eqT : Tp.lst pl 0 ar (ts.take (i + 1)) = Tp.lst pl 0 ar (ts.take i) ++ [⟨pl ++ [(i : Int)], t, ar⟩] ++ t.under (pl ++ [(i : Int)]) ar := by
      have hl : (ts.take i).length = i := by rw [List.length_take]; omega
      rw [take_succ gt, Tp.lst_app]
      simp only [Tp.lst, List.append_nil, hl, Nat.zero_add, List.append_assoc, List.cons_append, List.nil_append]
    have lrs3 : (rs ++ [V.ref q3]).length ≤ 5001 := by simp; omega
    have hx4 := ht.oth st3.oth
    have ha4 := st3.oth.keep aa _ (by simp) ha
    have o24 : Oth [p] H2 (upd (upd H2 q3 (.lst [.ref a2, xi, .ref aa])) p (.lst (rs ++ [.ref q3]))) := (Oth.new hq3).trans (Oth.put (by simp) hpq)
    have pl4 := o24.tup _ _ e2'
    generalize upd (upd H2 q3 (.lst [.ref a2, xi, .ref aa])) p (.lst (rs ++ [.ref q3])) = H4 at st3 o24 hx4 ha4 pl4 ⊢
    generalize rs ++ [V.ref q3] = rs4 at st3 lrs3 ⊢
    clear st2 hpq st o2 e2 e2' hq3 lrs
    cases t with
    | box tag key act cs =>
      obtain ⟨at', _, v1, v2, v3, v4, rfl, hat, p0, p1, p2, p3, p4⟩ := IsT.inv5 hx4
      obtain rfl := p0.of_str
      simp only [Tp.dep] at tdep
      simp only [Tp.cnt] at all
      refine ⟨_, rfl, at', _, _, _, rfl, rfl, SqT.of hat, at0, rfl, _, rfl, iteTd rfl ?_⟩
      refine ⟨_, rfl, _, rfl, at', _, _, _, rfl, rfl, SqT.of hat, at4, _, rfl, _, rfl, sz, fun l hl => ⟨aa, l, _, _, rfl, rfl, (Oth.new (S := []) hl).keep aa _ (by simp) ha4, upd_same, Nat.le_trans (by simp; omega : (ar.map V.str).length + [V.str "box"].length ≤ 100000) (by decide), fun l2 hl2 => ?_⟩⟩
      have o5 := (Oth.new (S := []) (o := .lst [.str "box"]) hl).trans (Oth.new (o := .lst (ar.map V.str ++ [.str "box"])) hl2)
      refine ⟨cs, pl ++ [(i : Int)], ar ++ [("box" : Str)], _, _, l2, rfl, p4.oth o5, .mkInts (o5.tup _ _ pl4), by rw [List.map_append]; exact upd_same, by omega, by omega, by simp; omega, by simp; omega, fun p3 H5 rs5 st5 => ?_⟩
      have o45 := o5.trans st5.oth
      have l5 : rs5.length ≤ 5000 := by rw [st5.rows.len, Tp.lst_len]; omega
      refine ⟨p, p3, _, _, rfl, rfl, (st3.go o45).at_, st5.at_, Nat.le_trans (by omega : rs4.length + rs5.length ≤ 100000) (by decide), fun p4 hp4 => ?_⟩
      exact ⟨_, _, _, p4, _, rfl, by rw [eqT]; exact st3.cat o45 st5.rows hp4⟩
    | each e cs =>
      obtain ⟨at', _, v1, v4, rfl, hat, p0, p1, p4⟩ := IsT.inv3 hx4
      obtain rfl := p0.of_str
      simp only [Tp.dep] at tdep
      simp only [Tp.cnt] at all
      refine ⟨_, rfl, at', _, _, _, rfl, rfl, SqT.of hat, at0, rfl, _, rfl, iteFd (by decide) ⟨_, rfl, at', _, _, _, rfl, rfl, SqT.of hat, at0, rfl, _, rfl, iteTd rfl ?_⟩⟩
      refine ⟨_, rfl, _, rfl, at', _, _, _, rfl, rfl, SqT.of hat, at2, _, rfl, _, rfl, sz, fun l hl => ⟨aa, l, _, _, rfl, rfl, (Oth.new (S := []) hl).keep aa _ (by simp) ha4, upd_same, Nat.le_trans (by simp; omega : (ar.map V.str).length + [V.str "each"].length ≤ 100000) (by decide), fun l2 hl2 => ?_⟩⟩
      have o5 := (Oth.new (S := []) (o := .lst [.str "each"]) hl).trans (Oth.new (o := .lst (ar.map V.str ++ [.str "each"])) hl2)
      refine ⟨cs, pl ++ [(i : Int)], ar ++ [("each" : Str)], _, _, l2, rfl, p4.oth o5, .mkInts (o5.tup _ _ pl4), by rw [List.map_append]; exact upd_same, by omega, by omega, by simp; omega, by simp; omega, fun p3 H5 rs5 st5 => ?_⟩
      have o45 := o5.trans st5.oth
      have l5 : rs5.length ≤ 5000 := by rw [st5.rows.len, Tp.lst_len]; omega
      refine ⟨p, p3, _, _, rfl, rfl, (st3.go o45).at_, st5.at_, Nat.le_trans (by omega : rs4.length + rs5.length ≤ 100000) (by decide), fun p4 hp4 => ?_⟩
      exact ⟨_, _, _, p4, _, rfl, by rw [eqT]; exact st3.cat o45 st5.rows hp4⟩
    | when e cs os =>
      obtain ⟨at', _, v1, v4, v5, rfl, hat, p0, p1, p4, p5⟩ := IsT.inv4 hx4
      obtain rfl := p0.of_str
      simp only [Tp.dep] at tdep
      simp only [Tp.cnt] at all
      refine ⟨_, rfl, at', _, _, _, rfl, rfl, SqT.of hat, at0, rfl, _, rfl, iteFd (by decide) ⟨_, rfl, at', _, _, _, rfl, rfl, SqT.of hat, at0, rfl, _, rfl, iteFd (by decide) ⟨_, rfl, at', _, _, _, rfl, rfl, SqT.of hat, at0, rfl, _, rfl, iteTd rfl ?_⟩⟩⟩
      refine ⟨_, rfl, _, rfl, at', _, _, _, rfl, rfl, SqT.of hat, at2, _, rfl, sz, fun t1 ht1 => cat_t ((Oth.new (S := []) ht1).tup _ _ pl4) upd_same (by simp; omega) fun b1 H6 o6 e6 => ?_⟩
      have o46 := (Oth.new (S := []) (o := .tup [.int 0]) ht1).trans o6
      have e6' : H6 b1 = some (.tup ((pl ++ [(i : Int)] ++ [0]).map V.int)) := by rw [e6, List.map_append (l₁ := pl ++ [(i : Int)])]; rfl
      refine ⟨_, rfl, sz, fun l hl => ⟨aa, l, _, _, rfl, rfl, (o46.trans (Oth.new (S := []) hl)).keep aa _ (by simp) ha4, upd_same, Nat.le_trans (by simp; omega : (ar.map V.str).length + [V.str "when"].length ≤ 100000) (by decide), fun l2 hl2 => ?_⟩⟩
      have o67 := (Oth.new (S := []) (o := .lst [.str "when"]) hl).trans (Oth.new (o := .lst (ar.map V.str ++ [.str "when"])) hl2)
      have o47 := o46.trans o67
      refine ⟨cs, pl ++ [(i : Int)] ++ [0], ar ++ [("when" : Str)], _, _, l2, rfl, p4.oth o47, .mkInts (o67.tup _ _ e6'), by rw [List.map_append]; exact upd_same, by omega, by omega, by simp; omega, by simp; omega, fun p3 H5 rs5 st5 => ?_⟩
      have o45 := o47.trans st5.oth
      have l5 : rs5.length ≤ 5000 := by rw [st5.rows.len, Tp.lst_len]; omega
      refine ⟨p, p3, _, _, rfl, rfl, (st3.go o45).at_, st5.at_, Nat.le_trans (by omega : rs4.length + rs5.length ≤ 100000) (by decide), fun p8 hp8 => ?_⟩
      have st8 := st3.cat o45 st5.rows hp8
      have o48 := o45.trans (Oth.new (o := .lst (rs4 ++ rs5)) hp8)
      have ha8 := o48.keep aa _ (by simp) ha4
      refine ⟨_, rfl, _, rfl, at', _, _, _, rfl, rfl, SqT.of (o48.tup _ _ hat), at3, _, rfl, sz, fun t1 ht1 => cat_t ((o48.trans (Oth.new ht1)).tup _ _ pl4) upd_same (by simp; omega) fun b1 H9 o9 e9 => ?_⟩
      have o89 := (Oth.new (S := []) (o := .tup [.int 1]) ht1).trans o9
      have e9' : H9 b1 = some (.tup ((pl ++ [(i : Int)] ++ [1]).map V.int)) := by rw [e9, List.map_append (l₁ := pl ++ [(i : Int)])]; rfl
      refine ⟨_, rfl, sz, fun l hl => ⟨aa, l, _, _, rfl, rfl, (o89.trans (Oth.new (S := []) hl)).keep aa _ (by simp) ha8, upd_same, Nat.le_trans (by simp; omega : (ar.map V.str).length + [V.str "when"].length ≤ 100000) (by decide), fun l2 hl2 => ?_⟩⟩
      have o9x := (Oth.new (S := []) (o := .lst [.str "when"]) hl).trans (Oth.new (o := .lst (ar.map V.str ++ [.str "when"])) hl2)
      have o8x := o89.trans o9x
      refine ⟨os, pl ++ [(i : Int)] ++ [1], ar ++ [("when" : Str)], _, _, l2, rfl, (p5.oth o48).oth o8x, .mkInts (o9x.tup _ _ e9'), by rw [List.map_append]; exact upd_same, by omega, by omega, by simp; omega, by simp; omega, fun p9 H10 rs10 st10 => ?_⟩
      have o8y := o8x.trans st10.oth
      have l10 : rs10.length ≤ 5000 := by rw [st10.rows.len, Tp.lst_len]; omega
      refine ⟨p8, p9, _, _, rfl, rfl, (st8.go o8y).at_, st10.at_, Nat.le_trans (by simp; omega : (rs4 ++ rs5).length + rs10.length ≤ 100000) (by decide), fun p11 hp11 => ?_⟩
      have st11 := st8.cat o8y st10.rows hp11
      exact ⟨_, _, _, p11, _, rfl, by rw [eqT]; simpa only [Tp.under, List.append_assoc] using st11⟩
    | _ =>
      obtain ⟨at', r', rfl, hat⟩ := Tp.kindAt _ hx4
      refine ⟨_, rfl, at', _, _, _, rfl, rfl, SqT.of hat, at0, rfl, _, rfl, iteFd (by simp only [Tp.kind]; decide) ⟨_, rfl, at', _, _, _, rfl, rfl, SqT.of hat, at0, rfl, _, rfl, iteFd (by simp only [Tp.kind]; decide) ⟨_, rfl, at', _, _, _, rfl, rfl, SqT.of hat, at0, rfl, _, rfl, iteFd (by simp only [Tp.kind]; decide) ?_⟩⟩⟩
      exact ⟨_, _, _, p, _, rfl, by rw [eqT]; simpa only [Tp.under, List.append_nil] using st3⟩
  · obtain ⟨x4, x5, x6, p, rs, rfl, st⟩ := hW
    rw [show ((xs.length : Nat) : Int).toNat = ts.length by omega, List.take_length] at st
    exact ⟨_, rfl, q p H1 rs st⟩
end
end Pw
namespace Pw
open PySem PySem.Spec PyProof.Rows L2
abbrev sPartFault : Stmt := topS 28
theorem scPartFault : FnScope ["program", "number", "row", "seen"] ["program", "number", "row", "seen"] (defScope sPartFault) := ⟨rfl, rfl, rfl, by decide +kernel, rfl, by decide +kernel, by decide +kernel⟩
abbrev sFault : Stmt := topS 29
theorem scFault : FnScope ["program", "many", "placed", "number", "rows", "seen", "row", "reason", "k"] ["program"] (defScope sFault) := ⟨rfl, rfl, rfl, by decide +kernel, rfl, by decide +kernel, by decide +kernel⟩
section
variable {P : Program} {w : World} {K : PySem.W.Frag} {mg : Str → Option Value} {base : Heap}
theorem ok_partFault {f : Addr} {fd : FuncData} {k : Nat} (F : Fun K "_law_part_fault" "_law_part_fault" sPartFault f fd) (m_len : mg "len" = none) : FnOk P w K mg base CX0 (k + 1) f fd ["program", "number", "row", "seen"] spPartFault := by
  refine F.ok scPartFault (fun vs H Q E h => ?_) (fun cdv A outer s H vs Q E' hr h => ?_)
  · obtain ⟨g, vp, x, y, own, p, ra, z, e, ar, seen, rfl, _⟩ := h
    rfl
  obtain ⟨g, vp, x, y, own, p, ra, z, e, ar, seen, rfl, hg, hra, hz, hy, he, q⟩ := h
  have nd := scPartFault.nd
  refine ⟨_, (pss_cons (ps_if (pt_cmpR op_ge (pe_ix ix_tup (pe_ix ix_list (pv 2) pe_int (fun _ _ => rfl)) pe_int (fun _ _ => rfl)) (pe_callB call_len_seq (by rfl) m_len PySem.boot_len (pa_cons (pe_ix ix_tup (pv 0) pe_int (fun _ _ => rfl)) pa_nil)) (nomark _))
  (pss_one (ps_ret pe_str))
  pss_nil)
  (pss_cons (ps_if (PW.pt (pw_or (pt_cmpR op_ne (pv 1) pe_int (nomark _)) (pw_or (pt_cmpR op_in_seq pe_str (pe_ix ix_list (pv 2) pe_int (fun _ _ => rfl)) (by rfl)) (pw_or1 (pt_cmpR op_in_seq pe_str (pe_ix ix_list (pv 2) pe_int (fun _ _ => rfl)) (by rfl))))))
  (pss_one (ps_ret pe_str))
  pss_nil)
  (pss_cons (ps_if (pt_cmpR op_in_seq (pe_ix ix_tup (pe_ix ix_list (pv 2) pe_int (fun _ _ => rfl)) pe_int (fun _ _ => rfl)) (pv 3) (by rfl))
  (pss_one (ps_ret pe_str))
  pss_nil)
  (pss_one (ps_ret pe_non))))), ?_⟩
  obtain ⟨a, c, s', qq, cs, rfl, ea, ec, pc, es, eq⟩ := Pg.inv hg
  obtain ⟨ay, _, w1, rfl, ey, p0, p1⟩ := IsT.inv2 hy
  obtain rfl := p0.of_str
  obtain rfl := p1.of_int
  unfold reasonPart at q
  refine ⟨_, rfl, ra, _, _, _, rfl, rfl, SqL.of hra, at1, ay, _, _, _, rfl, rfl, SqT.of ey, at1, _, rfl, a, _, _, _, rfl, rfl, SqT.of ea, at3, qq, _, rfl, .inr (SqT.of eq), _, _, rfl, rfl, _, rfl, ?_⟩
  by_cases c1 : g.parts.length ≤ p
  · rw [if_pos c1] at q
    exact iteTb (by simp; omega) q
  rw [if_neg c1] at q
  refine iteFb (by simp; omega) ?_
  by_cases c2 : own ≠ 0
  · rw [if_pos (.inl c2)] at q
    exact ⟨_, rfl, rfl, _, rfl, iteTb (by simp; omega) (iteT q)⟩
  refine ⟨_, rfl, rfl, _, rfl, iteFb (by simp; omega) ?_⟩
  by_cases c3 : ("when" : Str) ∈ ar
  · rw [if_pos (.inr (.inl c3))] at q
    exact ⟨_, rfl, ra, _, _, _, rfl, rfl, SqL.of hra, at2, z, _, rfl, .inl (SqL.of hz), rfl, flat_strs _, _, rfl, iteTb ((inV_strs _ _).trans (decide_eq_true c3)) (iteT q)⟩
  refine ⟨_, rfl, ra, _, _, _, rfl, rfl, SqL.of hra, at2, z, _, rfl, .inl (SqL.of hz), rfl, flat_strs _, _, rfl, iteFb ((inV_strs _ _).trans (decide_eq_false c3)) ?_⟩
  by_cases c4 : ("each" : Str) ∈ ar
  · rw [if_pos (.inr (.inr c4))] at q
    exact ⟨_, rfl, ra, _, _, _, rfl, rfl, SqL.of hra, at2, z, _, rfl, .inl (SqL.of hz), rfl, flat_strs _, _, rfl, iteTb ((inV_strs _ _).trans (decide_eq_true c4)) q⟩
  refine ⟨_, rfl, ra, _, _, _, rfl, rfl, SqL.of hra, at2, z, _, rfl, .inl (SqL.of hz), rfl, flat_strs _, _, rfl, iteFb ((inV_strs _ _).trans (decide_eq_false c4)) ?_⟩
  rw [if_neg (by rintro (h | h | h) <;> contradiction)] at q
  by_cases c5 : p ∈ seen
  · rw [if_pos c5] at q
    exact ⟨_, rfl, ra, _, _, _, rfl, rfl, SqL.of hra, at1, ay, _, _, _, rfl, rfl, SqT.of ey, at1, _, rfl, e, _, rfl, .inl (SqL.of he), rfl, flat_nats _, _, rfl, iteTb ((inV_nats _ _).trans (decide_eq_true c5)) q⟩
  · rw [if_neg c5] at q
    exact ⟨_, rfl, ra, _, _, _, rfl, rfl, SqL.of hra, at1, ay, _, _, _, rfl, rfl, SqT.of ey, at1, _, rfl, e, _, rfl, .inl (SqL.of he), rfl, flat_nats _, _, rfl, iteFb ((inV_nats _ _).trans (decide_eq_false c5)) q⟩
theorem ok_fault {f fL fJ : Addr} {fd dL dJ : FuncData} {k : Nat} (F : Fun K "_law_fault" "_law_fault" sFault f fd) (m_len : mg "len" = none) (m_range : mg "range" = none)
    (GL : FnOk P w K mg base CX0 k fL dL ["contents", "before", "around"] (spListed1 12)) (bL : Binds K dL ["contents", "before", "around"] []) (kL : PySem.W.keepIn K (.ref fL) = true) (mL : mg "_law_listed" = some (.ref fL))
    (GJ : FnOk P w K mg base CX0 k fJ dJ ["program", "number", "row", "seen"] spPartFault) (bJ : Binds K dJ ["program", "number", "row", "seen"] []) (kJ : PySem.W.keepIn K (.ref fJ) = true) (mJ : mg "_law_part_fault" = some (.ref fJ)) :
    FnOk P w K mg base CX0 (k + 1) f fd ["program"] spFault := by
  refine F.ok scFault (fun vs H Q E h => ?_) (fun cdv A outer s H vs Q E' hr h => ?_)
  · obtain ⟨g, vp, rfl, _⟩ := h
    rfl
  obtain ⟨g, vp, rfl, hg, fit, hne, q⟩ := h
  have nd := scFault.nd
  refine ⟨_, (pss_cons (ps_set (i := 1) nd rfl (.inl rfl) (pe_callB call_len_seq (by rfl) m_len PySem.boot_len (pa_cons (pe_ix ix_tup (pv 0) pe_int (fun _ _ => rfl)) pa_nil)))
  (pss_cons (ps_set (i := 2) nd rfl (.inl rfl) (pe_lst pa_nil))
  (pss_cons (ps_for PassesOwn.never rfl (pi_range1 (by rfl) m_range (pa_cons (pv 1) pa_nil)) (pg_name (i := 3) nd rfl (.inl rfl))
  (pss_cons (ps_set (i := 4) nd rfl (.inl rfl) (pe_call GL hr rfl mL kL bL .nil pass0 (pa_cons (pe_ix ix_tup (pe_ix ix_tup (pe_ix ix_tup (pv 0) pe_int (fun _ _ => rfl)) (pv 3) (fun _ _ => rfl)) pe_int (fun _ _ => rfl)) (pa_cons (pe_tup pa_nil) (pa_cons (pe_lst pa_nil) pa_nil)))))
  (pss_cons (ps_set (i := 5) nd rfl (.inl rfl) (pe_lst pa_nil))
  (pss_cons (ps_for PassesOwn.never rfl (pi_list (pv 4)) (pg_name (i := 6) nd rfl (.inl rfl))
  (pss_cons (ps_if (pt_cmpR op_gt (pe_callB call_len_seq (by rfl) m_len PySem.boot_len (pa_cons (pe_ix ix_list (pv 6) pe_int (fun _ _ => rfl)) pa_nil)) pe_int (nomark _))
  (pss_one (ps_ret (pe_tup (pa_cons (pv 3) (pa_cons (pe_ix ix_list (pv 6) pe_int (fun _ _ => rfl)) (pa_cons pe_str pa_nil))))))
  pss_nil)
  (pss_cons (ps_if (PW.pt (pw_and (pt_cmpR op_eq (pe_ix ix_tup (pe_ix ix_list (pv 6) pe_int (fun _ _ => rfl)) pe_int (fun _ _ => rfl)) pe_str (nomark _)) (pw_and1 (PW.pt (pw_or (pt_cmpR op_le (pe_ix ix_tup (pe_ix ix_list (pv 6) pe_int (fun _ _ => rfl)) pe_int (fun _ _ => rfl)) (pv 3) (nomark _)) (pw_or1 (pt_cmpR op_ge (pe_ix ix_tup (pe_ix ix_list (pv 6) pe_int (fun _ _ => rfl)) pe_int (fun _ _ => rfl)) (pv 1) (nomark _))))))))
  (pss_one (ps_ret (pe_tup (pa_cons (pv 3) (pa_cons (pe_ix ix_list (pv 6) pe_int (fun _ _ => rfl)) (pa_cons pe_str pa_nil))))))
  pss_nil)
  (pss_one (ps_if (pt_cmpR op_eq (pe_ix ix_tup (pe_ix ix_list (pv 6) pe_int (fun _ _ => rfl)) pe_int (fun _ _ => rfl)) pe_str (nomark _))
  (pss_cons (ps_set (i := 7) nd rfl (.inl rfl) (pe_call GJ hr rfl mJ kJ bJ .nil pass0 (pa_cons (pv 0) (pa_cons (pv 3) (pa_cons (pv 6) (pa_cons (pv 5) pa_nil))))))
  (pss_cons (ps_if (pt_cmpR op_notN (pv 7) pe_non (nomark _))
  (pss_one (ps_ret (pe_tup (pa_cons (pv 3) (pa_cons (pe_ix ix_list (pv 6) pe_int (fun _ _ => rfl)) (pa_cons (pv 7) pa_nil))))))
  pss_nil)
  (pss_one (ps_expr (pe_bm PySem.F.plainAttrs_list PySem.F.slot_list_append PySem.F.type_list_append mt_append (pv 5) (pa_cons (pe_ix ix_tup (pe_ix ix_list (pv 6) pe_int (fun _ _ => rfl)) pe_int (fun _ _ => rfl)) pa_nil))))))
  pss_nil)))))
  (pss_cons (ps_if (pt_cmpR op_gt (pe_callB call_len_seq (by rfl) m_len PySem.boot_len (pa_cons (pv 4) pa_nil)) pe_int (nomark _))
  (pss_one (ps_ret (pe_tup (pa_cons (pv 3) (pa_cons (pe_tup pa_nil) (pa_cons pe_str pa_nil))))))
  pss_nil)
  (pss_one (ps_set (i := 2) nd rfl (.inl rfl) (pe_op op_cat (pv 2) (pv 5)))))))))
  (pss_cons (ps_for PassesOwn.never rfl (pi_range1 (by rfl) m_range (pa_cons (pe_callB call_len_seq (by rfl) m_len PySem.boot_len (pa_cons (pe_ix ix_tup (pv 0) pe_int (fun _ _ => rfl)) pa_nil)) pa_nil)) (pg_name (i := 8) nd rfl (.inl rfl))
  (pss_cons (ps_if (PW.pt (pw_or (pt_cmpR op_lt (pe_ix ix_tup (pe_ix ix_tup (pv 0) pe_int (fun _ _ => rfl)) (pv 8) (fun _ _ => rfl)) pe_int (nomark _)) (pw_or1 (pt_cmpR op_ge (pe_ix ix_tup (pe_ix ix_tup (pv 0) pe_int (fun _ _ => rfl)) (pv 8) (fun _ _ => rfl)) (pv 1) (nomark _)))))
  (pss_one (ps_ret (pe_tup (pa_cons (pe_un un_neg pe_int) (pa_cons (pe_tup (pa_cons (pv 8) pa_nil)) (pa_cons pe_str pa_nil))))))
  pss_nil)
  (pss_one (ps_if (pt_cmpR op_notIn_seq (pv 8) (pv 2) (by rfl))
  (pss_one (ps_ret (pe_tup (pa_cons (pe_un un_neg pe_int) (pa_cons (pe_tup (pa_cons (pv 8) pa_nil)) (pa_cons pe_str pa_nil))))))
  pss_nil))))
  (pss_one (ps_ret pe_non)))))), ?_⟩
  obtain ⟨a, cc, s', qq, cs, rfl, ea, ec, pc, es, eq⟩ := Pg.inv hg
  have lcs : cs.length = g.comps.length := by rw [(paired_get pc).1, List.length_map]
  have f10 := fit.2.1
  have p10 := fit.2.2
  refine ⟨_, rfl, a, _, _, _, rfl, rfl, SqT.of ea, at1, cc, _, rfl, .inr (SqT.of ec), sz, fun pL hL => ?_⟩
  have oL := Oth.new (S := []) (o := .lst []) hL
  refine ⟨_, rfl, _, rfl, by omega, by omega, for_range (lo := 0) (n := ((cs.length : Nat) : Int).toNat)
    (fun i σ H2 => ∃ (pP : Addr) (x3 x4 x5 x6 x7 : Option V) (placed : List Nat), σ = [some (.ref a), some (.int ((cs.length : Nat) : Int)), some (.ref pP), x3, x4, x5, x6, x7, none] ∧ Oth [] H H2 ∧ H2 pP = some (.lst (placed.map natV)) ∧ (i = 0 → placed = []) ∧ (i ≠ 0 → placed = placedIn g) ∧
      compsFault g.comps.length g.parts.length i (g.comps.drop i) = compsFault g.comps.length g.parts.length 0 g.comps)
    ⟨pL, none, none, none, none, none, [], rfl, oL, upd_same, fun _ => rfl, fun h => absurd rfl h, rfl⟩ (fun i σ H2 hi hW => ?_) (fun σ H2 hW => ?_)⟩
  · obtain ⟨pP, x3, x4, x5, x6, x7, placed, rfl, o2, eP, hp0, hp1, hf⟩ := hW
    have hi2 : i < g.comps.length := by omega
    obtain ⟨c, gc⟩ : ∃ c, g.comps[i]? = some c := ⟨g.comps[i], List.getElem?_eq_getElem hi2⟩
    have fc := fit.1 c (List.mem_of_getElem? gc)
    have fd2 := fc.deps
    have fc2 := fc.cnts
    obtain ⟨ci, gci⟩ : ∃ ci, cs[i]? = some ci := ⟨cs[i]'(by omega), List.getElem?_eq_getElem (by omega)⟩
    have hci : IsT H c.toT ci := (paired_get pc).2 i _ _ (by rw [List.getElem?_map, gc]; rfl) gci
    obtain ⟨ai, cx, cy, cz, rfl, eci, ecx, tcs, _⟩ := Cm.inv hci
    rw [compsFault_at gc] at hf
    rw [show (0 : Int) + (i : Int) = (i : Int) from Int.zero_add _]
    refine ⟨_, rfl, a, _, _, _, rfl, rfl, SqT.of (o2.tup _ _ ea), at1, _, rfl, cc, _, _, _, rfl, rfl, SqT.of (o2.tup _ _ ec), atI_nat gci, ai, _, _, _, rfl, rfl, SqT.of (o2.tup _ _ eci), at2, sz, fun p0 h0 => ⟨sz, fun p1 h1 => ?_⟩⟩
    have o01 := (Oth.new (S := []) (o := .tup []) h0).trans (Oth.new (o := .lst []) h1)
    have o21 := o2.trans o01
    refine ⟨c.cs, [], [], _, _, p1, rfl, tcs.oth o21, .mk ((Oth.new (S := []) (o := .lst []) h1).tup _ _ upd_same) .nil, upd_same, fd2, by omega, by simp, by simp, fun p H3 rs st => ?_⟩
    have o23 := o21.trans st.oth
    have lrs : rs.length = (Tp.lst [] 0 [] c.cs).length := st.rows.len
    have lrs2 : rs.length ≤ 1700 := by rw [lrs, Tp.lst_len]; exact fc2
    refine ⟨sz, fun pE hE => ?_⟩
    have npE : p ≠ pE := ne_of_none st.at_ hE
    have oE := Oth.new (S := []) (o := .lst []) hE
    have hE0 : H2 pE = none := by
      cases z : H2 pE with
      | none => rfl
      | some x => rw [(o01.trans st.oth).keep pE _ (by simp) z] at hE; cases hE
    have hE00 : H pE = none := by
      cases z : H pE with
      | none => rfl
      | some x => rw [o23.keep pE _ (by simp) z] at hE; cases hE
    have nPE : pP ≠ pE := ne_of_none eP hE0
    refine ⟨_, rfl, p, rfl, ⟨rs, SqL.of (oE.keep p _ (by simp) st.at_)⟩, for_list (xs := rs)
      (fun j σ H4 => ∃ (seen : List Nat) (x6 x7 : Option V), σ = [some (.ref a), some (.int ((cs.length : Nat) : Int)), some (.ref pP), some (.int (i : Int)), some (.ref p), some (.ref pE), x6, x7, none] ∧ H4 p = some (.lst rs) ∧ LRowsN pE H4 (Tp.lst [] 0 [] c.cs) rs ∧ H4 pE = some (.lst (seen.map natV)) ∧ Oth [] H H4 ∧ H4 pP = some (.lst (placed.map natV)) ∧
        rowsFault g.comps.length g.parts.length i ((Tp.lst [] 0 [] c.cs).drop j) seen = rowsFault g.comps.length g.parts.length i (Tp.lst [] 0 [] c.cs) [] ∧ seen.length ≤ j)
      ⟨[], x6, x7, rfl, oE.keep p _ (by simp) st.at_, (st.rows.re hE).oth oE (by simp), upd_same, o23.trans oE, (o01.trans (st.oth.trans oE)).keep pP _ (by simp) eP, rfl, Nat.zero_le _⟩ (fun j σ H4 _ hW => ?_) (fun j x σ H4 hx hW => ?_) (fun σ H4 hW => ?_)⟩
    · obtain ⟨_, _, _, _, e, _⟩ := hW
      exact SqL.of e
    · obtain ⟨seen, y6, y7, rfl, e4, r4, eE, o4, eP4, hfr, ls⟩ := hW
      have hj : j < rs.length := (List.getElem?_eq_some_iff.mp hx).1
      obtain ⟨r, gr, ra, rz, rx, ry, rfl, nra, nrz, era, erz, t1, t2⟩ := r4.get hx
      rw [rowsFault_at gr] at hfr
      -- a fault of this row
      have giveUp : ∀ (re : Str), reasonOf g.comps.length g.parts.length i r.tp r.ar seen = some re → ∀ t, H4 t = none → Q (.ref t) (upd H4 t (.tup [.int (i : Int), rx, .str re])) := fun re hre t ht => by
        rw [hre] at hfr
        dsimp only at hfr
        have h1 : compFault g.comps.length g.parts.length i c.cs = .inl (r.place, re) := by unfold compFault; rw [← hfr]
        rw [h1] at hf
        dsimp only at hf
        have h2 : progFault g = some ((i : Int), r.place, re) := by unfold progFault; rw [← hf]
        have ot := Oth.new (S := []) (o := .tup [.int (i : Int), rx, .str re]) ht
        refine q _ _ ?_ (o4.trans ot)
        rw [h2]
        exact .mk3 upd_same (.int _) (t1.oth ot) (.str _)
      refine ⟨_, rfl, ra, _, _, _, rfl, rfl, SqL.of era, at2, rz, _, rfl, .inl (SqL.of erz), _, _, rfl, rfl, _, rfl, ?_⟩
      by_cases c1 : 3 < r.ar.length
      · refine iteTb (by simp; omega) ⟨_, rfl, _, rfl, ra, _, _, _, rfl, rfl, SqL.of era, at0, sz, fun t ht => ?_⟩
        exact giveUp _ (by unfold reasonOf; rw [if_pos c1]) t ht
      refine iteFb (by simp; omega) ?_
      have go : (∀ n, r.tp ≠ .part n) → reasonOf g.comps.length g.parts.length i r.tp r.ar seen = none → rowsFault g.comps.length g.parts.length i ((Tp.lst [] 0 [] c.cs).drop (j + 1)) seen = rowsFault g.comps.length g.parts.length i (Tp.lst [] 0 [] c.cs) [] := fun hn hre => by
        rw [hre] at hfr
        have hk2 : seenOf r.tp seen = seen := by
          cases hh : r.tp with
          | part n => exact absurd hh (hn n)
          | _ => rfl
        rw [hk2] at hfr
        exact hfr
      obtain ⟨at', r', rfl, hat⟩ := Tp.kindAt _ t2
      cases htp : r.tp with
      | child ch key props =>
        rw [htp] at t2 hat
        obtain ⟨at2', _, w1, w2, w3, hx2, hat2, p0, p1', _⟩ := IsT.inv4 t2
        cases hx2
        obtain rfl := p0.of_str
        obtain rfl := p1'.of_int
        refine ⟨_, rfl, ra, _, _, _, rfl, rfl, SqL.of era, at1, at', _, _, _, rfl, rfl, SqT.of hat2, at0, rfl, _, rfl, iteTd rfl ?_⟩
        refine ⟨_, rfl, ra, _, _, _, rfl, rfl, SqL.of era, at1, at', _, _, _, rfl, rfl, SqT.of hat2, at1, _, rfl, _, _, rfl, rfl, _, rfl, ?_⟩
        by_cases c2 : i < ch
        · refine iteFb (by simp; omega) ⟨_, rfl, ra, _, _, _, rfl, rfl, SqL.of era, at1, at', _, _, _, rfl, rfl, SqT.of hat2, at1, _, rfl, _, _, rfl, rfl, _, rfl, ?_⟩
          by_cases c3 : ch < g.comps.length
          · refine iteFb (by simp; omega) ?_
            refine ⟨_, rfl, ra, _, _, _, rfl, rfl, SqL.of era, at1, at', _, _, _, rfl, rfl, SqT.of hat2, at0, rfl, _, rfl, iteFd (by decide) ?_⟩
            exact ⟨seen, _, _, rfl, e4, r4, eE, o4, eP4, go (by intro n h; rw [htp] at h; cases h) (by unfold reasonOf; rw [if_neg c1, htp]; exact if_pos ⟨c2, c3⟩), by omega⟩
          · refine iteTb (by simp; omega) ⟨_, rfl, _, rfl, ra, _, _, _, rfl, rfl, SqL.of era, at0, sz, fun t ht => ?_⟩
            exact giveUp _ (by unfold reasonOf; rw [if_neg c1, htp]; exact if_neg fun z => c3 z.2) t ht
        · refine iteTb (by simp; omega) (iteT ⟨_, rfl, _, rfl, ra, _, _, _, rfl, rfl, SqL.of era, at0, sz, fun t ht => ?_⟩)
          exact giveUp _ (by unfold reasonOf; rw [if_neg c1, htp]; exact if_neg fun z => c2 z.1) t ht
      | part n =>
        rw [htp] at t2 hat
        obtain ⟨at2', _, w1, hx2, hat2, p0, p1'⟩ := IsT.inv2 t2
        cases hx2
        obtain rfl := p0.of_str
        obtain rfl := p1'.of_int
        refine ⟨_, rfl, ra, _, _, _, rfl, rfl, SqL.of era, at1, at', _, _, _, rfl, rfl, SqT.of hat2, at0, rfl, _, rfl, iteFd (by decide) (iteF ?_)⟩
        refine ⟨_, rfl, ra, _, _, _, rfl, rfl, SqL.of era, at1, at', _, _, _, rfl, rfl, SqT.of hat2, at0, rfl, _, rfl, iteTd rfl ?_⟩
        have hro : reasonOf g.comps.length g.parts.length i r.tp r.ar seen = reasonPart i g.parts.length n r.ar seen := by unfold reasonOf; rw [if_neg c1, htp]
        refine ⟨_, rfl, _, rfl, _, rfl, _, rfl, g, _, rx, _, i, n, ra, rz, pE, r.ar, seen, rfl, hg.oth o4, era, erz, t2, eE, ?_⟩
        cases hre : reasonPart i g.parts.length n r.ar seen with
        | some re =>
          refine ⟨_, rfl, rfl, _, rfl, iteT ⟨_, rfl, _, rfl, ra, _, _, _, rfl, rfl, SqL.of era, at0, _, rfl, sz, fun t ht => ?_⟩⟩
          exact giveUp re (hro.trans hre) t ht
        | none =>
          refine ⟨_, rfl, rfl, _, rfl, iteF ?_⟩
          refine ⟨_, rfl, .inl ⟨rfl, _, SqL.of eE⟩, _, rfl, ra, _, _, _, rfl, rfl, SqL.of era, at1, at', _, _, _, rfl, rfl, SqT.of hat2, at1, pE, _, _, rfl, rfl, eE, Nat.lt_of_le_of_lt (by rw [List.length_map]; omega : (seen.map natV).length ≤ 100000) (by decide), ?_⟩
          have op : Oth [pE] H4 (upd H4 pE (.lst (seen.map natV ++ [natV n]))) := Oth.put (by simp) eE
          rw [hro.trans hre, htp] at hfr
          exact ⟨seen ++ [n], _, _, rfl, op.keep p _ (by simp [npE]) e4, r4.oth op (by simp), by rw [List.map_append]; exact upd_same, Oth.drop (p := pE) ((o4.mono (by simp)).trans op) hE00, op.keep pP _ (by simp [nPE]) eP4, hfr, by simp; omega⟩
      | _ =>
        rw [htp] at hat
        refine ⟨_, rfl, ra, _, _, _, rfl, rfl, SqL.of era, at1, at', _, _, _, rfl, rfl, SqT.of hat, at0, rfl, _, rfl, iteFd (by simp only [Tp.kind]; decide) (iteF ?_)⟩
        refine ⟨_, rfl, ra, _, _, _, rfl, rfl, SqL.of era, at1, at', _, _, _, rfl, rfl, SqT.of hat, at0, rfl, _, rfl, iteFd (by simp only [Tp.kind]; decide) ?_⟩
        exact ⟨seen, _, _, rfl, e4, r4, eE, o4, eP4, go (by intro n h; rw [htp] at h; cases h) (by unfold reasonOf; rw [if_neg c1, htp]), by omega⟩
    · obtain ⟨seen, y6, y7, rfl, e4, r4, eE, o4, eP4, hfr, ls⟩ := hW
      rw [lrs, List.drop_length] at hfr
      simp only [rowsFault] at hfr
      refine ⟨_, rfl, p, _, rfl, .inl (SqL.of e4), _, _, rfl, rfl, _, rfl, ?_⟩
      by_cases c24 : 24 < (Tp.lst [] 0 [] c.cs).length
      · have h1 : compFault g.comps.length g.parts.length i c.cs = .inl ([], "too many templates") := by
          unfold compFault
          rw [← hfr]
          exact if_pos c24
        rw [h1] at hf
        dsimp only at hf
        have h2 : progFault g = some ((i : Int), [], ("too many templates" : Str)) := by unfold progFault; rw [← hf]
        refine iteTb (by simp; omega) ⟨_, rfl, sz, fun t0 ht0 => ⟨sz, fun t ht => ?_⟩⟩
        have ot0 := Oth.new (S := []) (o := .tup []) ht0
        have ot := Oth.new (S := []) (o := .tup [.int (i : Int), .ref t0, .str "too many templates"]) ht
        refine q _ _ ?_ (o4.trans (ot0.trans ot))
        rw [h2]
        exact .mk3 upd_same (.int _) (.mk (ot.tup _ _ upd_same) .nil) (.str _)
      · have h1 : compFault g.comps.length g.parts.length i c.cs = .inr seen := by
          unfold compFault
          rw [← hfr]
          exact if_neg c24
        rw [h1] at hf
        dsimp only at hf
        obtain ⟨sp1, sp2⟩ := rowsFault_parts hfr.symm
        rw [List.nil_append] at sp1
        have lseen : seen.length ≤ 1700 := by omega
        have lpl : placed.length ≤ 1700 := by
          by_cases hi0 : i = 0
          · rw [hp0 hi0]; exact Nat.zero_le _
          · rw [hp1 hi0]
            cases hcm : g.comps with
            | nil => exact absurd hcm hne
            | cons c0 r0 =>
              have z := partsIn_len (Tp.lst [] 0 [] c0.cs)
              rw [Tp.lst_len] at z
              have z2 := (fit.1 c0 (by rw [hcm]; exact List.mem_cons_self)).cnts
              unfold placedIn
              rw [hcm]
              show (partsIn (Tp.lst [] 0 [] c0.cs)).length ≤ 1700
              omega
        refine iteFb (by simp; omega) ⟨_, rfl, _, rfl, pP, pE, _, _, rfl, rfl, eP4, eE, Nat.le_trans (by rw [List.length_map, List.length_map]; omega : _ ≤ 100000) (by decide), fun p9 hp9 => ?_⟩
        refine ⟨p9, _, _, _, _, _, placed ++ seen, rfl, o4.trans (Oth.new hp9), by rw [List.map_append]; exact upd_same, fun h => absurd h (by omega), fun _ => ?_, hf⟩
        by_cases hi0 : i = 0
        · rw [hp0 hi0, List.nil_append, sp1]
          unfold placedIn
          subst hi0
          cases hcm : g.comps with
          | nil => exact absurd hcm hne
          | cons c0 r0 =>
            rw [hcm] at gc
            cases gc
            rfl
        · rw [hp1 hi0, sp1, sp2 hi0, List.append_nil]
  · obtain ⟨pP, x3, x4, x5, x6, x7, placed, rfl, o2, eP, hp0, hp1, hf⟩ := hW
    rw [show ((cs.length : Nat) : Int).toNat = g.comps.length by omega] at hf hp0 hp1
    rw [List.drop_length] at hf
    simp only [compsFault] at hf
    have hpl : placed = placedIn g := hp1 fun z => hne (List.eq_nil_of_length_eq_zero z)
    have pf : progFault g = (partsFault g.comps.length (placedIn g) 0 g.parts).map fun f => (-1, [(f.1 : Int)], f.2) := by unfold progFault; rw [← hf]
    refine ⟨_, rfl, a, _, _, _, rfl, rfl, SqT.of (o2.tup _ _ ea), at3, qq, _, rfl, .inr (SqT.of (o2.tup _ _ eq)), _, rfl, by rw [List.length_map]; omega, by rw [List.length_map]; omega, for_range (lo := 0) (n := (((g.parts.map natV).length : Nat) : Int).toNat)
      (fun i σ H3 => ∃ (x8 : Option V), σ = [some (.ref a), some (.int ((cs.length : Nat) : Int)), some (.ref pP), x3, x4, x5, x6, x7, x8] ∧ Oth [] H H3 ∧ H3 pP = some (.lst (placed.map natV)) ∧
        partsFault g.comps.length (placedIn g) i (g.parts.drop i) = partsFault g.comps.length (placedIn g) 0 g.parts)
      ⟨none, rfl, o2, eP, rfl⟩ (fun i σ H3 hi hW => ?_) (fun σ H3 hW => ?_)⟩
    · obtain ⟨x8, rfl, o3, eP3, hf3⟩ := hW
      have hi2 : i < g.parts.length := by rw [List.length_map] at hi; omega
      obtain ⟨n, gn⟩ : ∃ n, g.parts[i]? = some n := ⟨g.parts[i], List.getElem?_eq_getElem hi2⟩
      have gv : (g.parts.map natV)[i]? = some (natV n) := by rw [List.getElem?_map, gn]; rfl
      rw [partsFault_at gn] at hf3
      rw [show (0 : Int) + (i : Int) = (i : Int) from Int.zero_add _]
      have giveUp : ∀ (re : Str), some (i, re) = partsFault g.comps.length (placedIn g) 0 g.parts → ∀ t0, H3 t0 = none → ∀ t, (upd H3 t0 (.tup [.int (i : Int)])) t = none → Q (.ref t) (upd (upd H3 t0 (.tup [.int (i : Int)])) t (.tup [.int (-1), .ref t0, .str re])) := fun re hre t0 ht0 t ht => by
        rw [← hre] at pf
        have ot0 := Oth.new (S := []) (o := .tup [.int (i : Int)]) ht0
        have ot := Oth.new (S := []) (o := .tup [.int (-1), .ref t0, .str re]) ht
        refine q _ _ ?_ (o3.trans (ot0.trans ot))
        rw [pf]
        exact .mk3 upd_same (.int _) (.mkInts (ns := [(i : Int)]) (ot.tup _ _ upd_same)) (.str _)
      refine ⟨_, rfl, a, _, _, _, rfl, rfl, SqT.of (o3.tup _ _ ea), at3, _, rfl, qq, _, _, _, rfl, rfl, SqT.of (o3.tup _ _ eq), atI_nat gv, _, _, rfl, rfl, _, rfl, ?_⟩
      by_cases c1 : 0 < n
      · refine iteFb (by simp; omega) ⟨_, rfl, a, _, _, _, rfl, rfl, SqT.of (o3.tup _ _ ea), at3, _, rfl, qq, _, _, _, rfl, rfl, SqT.of (o3.tup _ _ eq), atI_nat gv, _, rfl, _, _, rfl, rfl, _, rfl, ?_⟩
        by_cases c2 : n < g.comps.length
        · rw [if_pos ⟨c1, c2⟩] at hf3
          refine iteFb (by simp; omega) ⟨_, rfl, _, rfl, pP, _, rfl, .inl (SqL.of eP3), rfl, flat_nats _, _, rfl, ?_⟩
          by_cases c3 : i ∈ placedIn g
          · rw [if_pos c3] at hf3
            exact iteFb (by show (!inV (natV i) _) = false; rw [inV_nats, hpl, decide_eq_true c3]; rfl) ⟨_, rfl, o3, eP3, hf3⟩
          · rw [if_neg c3] at hf3
            refine iteTb (by show (!inV (natV i) _) = true; rw [inV_nats, hpl, decide_eq_false c3]; rfl) ⟨_, rfl, _, rfl, sz, fun t0 ht0 => ⟨sz, fun t ht => ?_⟩⟩
            exact giveUp _ hf3 t0 ht0 t ht
        · rw [if_neg fun z => c2 z.2] at hf3
          exact iteTb (by simp; omega) ⟨_, rfl, _, rfl, sz, fun t0 ht0 => ⟨sz, fun t ht => giveUp _ hf3 t0 ht0 t ht⟩⟩
      · rw [if_neg fun z => c1 z.1] at hf3
        exact iteTb (by simp; omega) (iteT ⟨_, rfl, _, rfl, sz, fun t0 ht0 => ⟨sz, fun t ht => giveUp _ hf3 t0 ht0 t ht⟩⟩)
    · obtain ⟨x8, rfl, o3, eP3, hf3⟩ := hW
      rw [List.length_map, show ((g.parts.length : Nat) : Int).toNat = g.parts.length by omega, List.drop_length] at hf3
      simp only [partsFault] at hf3
      rw [← hf3] at pf
      refine q _ _ ?_ o3
      rw [pf]
      exact .non
end
end Pw
namespace Pw
open PySem PySem.Spec PyProof.Rows L2
abbrev sWrapped : Stmt := topS 30
theorem scWrapped : FnScope ["contents", "kinds", "kind"] ["contents", "kinds"] (defScope sWrapped) := ⟨rfl, rfl, rfl, by decide +kernel, rfl, by decide +kernel, by decide +kernel⟩
abbrev sChanged : Stmt := topS 31
theorem scChanged : FnScope ["box", "program", "number", "row", "contents", "parts", "kind", "k"] ["box", "program"] (defScope sChanged) := ⟨rfl, rfl, rfl, by decide +kernel, rfl, by decide +kernel, by decide +kernel⟩
section
variable {P : Program} {w : World} {K : PySem.W.Frag} {mg : Str → Option Value} {base : Heap}
theorem ok_wrapped {f : Addr} {fd : FuncData} {k : Nat} (F : Fun K "_law_wrapped" "_law_wrapped" sWrapped f fd) : FnOk P w K mg base CX0 (k + 1) f fd ["contents", "kinds"] spWrapped := by
  refine F.ok scWrapped (fun vs H Q E h => ?_) (fun cdv A outer s H vs Q E' hr h => ?_)
  · obtain ⟨ts, vc, l, ks, rfl, _⟩ := h
    rfl
  obtain ⟨ts, vc, l, ks, rfl, hc, hl, hk, q⟩ := h
  have nd := scWrapped.nd
  refine ⟨_, (pss_cons (ps_for PassesOwn.never rfl (pi_list (pv 1)) (pg_name (i := 2) nd rfl (.inl rfl))
  (pss_one (ps_if (pt_cmpR op_eq (pv 2) pe_int (nomark _))
  (pss_one (ps_set (i := 0) nd rfl (.inl rfl) (pe_tup (pa_cons (pe_tup (pa_cons pe_str (pa_cons pe_str (pa_cons pe_non (pa_cons pe_non (pa_cons (pv 0) pa_nil)))))) pa_nil))))
  (pss_one (ps_if (pt_cmpR op_eq (pv 2) pe_int (nomark _))
  (pss_one (ps_set (i := 0) nd rfl (.inl rfl) (pe_tup (pa_cons (pe_tup (pa_cons pe_str (pa_cons (pe_tup (pa_cons pe_str (pa_cons pe_int pa_nil))) (pa_cons (pv 0) (pa_cons (pe_tup pa_nil) pa_nil))))) pa_nil))))
  (pss_one (ps_set (i := 0) nd rfl (.inl rfl) (pe_tup (pa_cons (pe_tup (pa_cons pe_str (pa_cons (pe_tup (pa_cons pe_str (pa_cons pe_int pa_nil))) (pa_cons (pe_tup (pa_cons (pe_tup (pa_cons pe_str (pa_cons pe_str pa_nil))) pa_nil)) (pa_cons (pe_tup (pa_cons (pe_tup (pa_cons pe_str (pa_cons (pe_tup (pa_cons pe_str (pa_cons pe_int pa_nil))) (pa_cons (pv 0) pa_nil)))) pa_nil)) pa_nil))))) pa_nil)))))))))
  (pss_one (ps_ret (pv 0)))), ?_⟩
  refine ⟨_, rfl, l, rfl, ⟨_, SqL.of hl⟩, for_list (xs := ks.map V.int)
    (fun i σ H2 => ∃ (x2 : Option V) (v : V), σ = [some v, some (.ref l), x2] ∧ Oth [] H H2 ∧ IsT H2 (.tup (Tp.toTs (wraps (ks.take i) ts))) v)
    ⟨none, vc, rfl, Oth.refl, hc⟩ (fun i σ H2 _ hW => ?_) (fun i x σ H2 hx hW => ?_) (fun σ H2 hW => ?_)⟩
  · obtain ⟨_, _, _, o2, _⟩ := hW
    exact SqL.of (o2.keep l _ (by simp) hl)
  · obtain ⟨x2, v, rfl, o2, tv⟩ := hW
    rw [List.getElem?_map] at hx
    obtain ⟨kk, gk, rfl⟩ : ∃ u, ks[i]? = some u ∧ V.int u = x := by
      cases z : ks[i]? with
      | none => rw [z] at hx; cases hx
      | some u => rw [z] at hx; exact ⟨u, rfl, Option.some.inj hx⟩
    have e8 : wraps (ks.take (i + 1)) ts = wrap1 kk (wraps (ks.take i) ts) := by
      rw [take_succ gk]
      unfold wraps
      rw [List.foldl_append]
      rfl
    refine ⟨_, rfl, rfl, _, rfl, ite2 (fun c => ?_) (fun c => ⟨_, rfl, rfl, _, rfl, ite2 (fun c2 => ?_) (fun c2 => ?_)⟩)⟩
    · have hk0 : kk = 0 := by have := of_decide_eq_true c; injection this
      refine ⟨_, rfl, sz, fun p1 h1 => ⟨sz, fun p2 h2 => ?_⟩⟩
      have o3 := Oth.new (S := []) (o := .tup [.str "box", .str "p", .non, .non, v]) h1
      have o4 := Oth.new (S := []) (o := .tup [.ref p1]) h2
      refine ⟨_, _, rfl, o2.trans (o3.trans o4), ?_⟩
      rw [e8, show wrap1 kk (wraps (ks.take i) ts) = [.box "p" none none (wraps (ks.take i) ts)] from if_pos hk0]
      exact .mk1 upd_same (.mk5 (o4.tup _ _ upd_same) (.str _) (.str _) .non .non ((tv.oth o3).oth o4))
    · have hk0 : ¬ kk = 0 := fun z => c (by rw [z]; exact decide_eq_true rfl)
      have hk1 : kk = 1 := by have := of_decide_eq_true c2; injection this
      refine ⟨sz, fun p0 h0 => ⟨_, rfl, sz, fun p1 h1 => ⟨sz, fun p2 h2 => ⟨sz, fun p3 h3 => ?_⟩⟩⟩⟩
      have o1 := Oth.new (S := []) (o := .tup [.str "cell", .int 0]) h0
      have o3 := Oth.new (S := []) (o := .tup []) h1
      have o4 := Oth.new (S := []) (o := .tup [.str "when", .ref p0, v, .ref p1]) h2
      have o5 := Oth.new (S := []) (o := .tup [.ref p2]) h3
      refine ⟨_, _, rfl, o2.trans (o1.trans (o3.trans (o4.trans o5))), ?_⟩
      rw [e8, show wrap1 kk (wraps (ks.take i) ts) = [.when (.cell 0) (wraps (ks.take i) ts) []] from (if_neg hk0).trans (if_pos hk1)]
      exact .mk1 upd_same (.mk4 (o5.tup _ _ upd_same) (.str _) (.mk2 ((o3.trans (o4.trans o5)).tup _ _ upd_same) (.str _) (.int _)) (tv.oth (o1.trans (o3.trans (o4.trans o5)))) (.mk ((o4.trans o5).tup _ _ upd_same) .nil))
    · have hk0 : ¬ kk = 0 := fun z => c (by rw [z]; exact decide_eq_true rfl)
      have hk1 : ¬ kk = 1 := fun z => c2 (by rw [z]; exact decide_eq_true rfl)
      refine ⟨sz, fun p0 h0 => ⟨sz, fun p1 h1 => ⟨sz, fun p2 h2 => ⟨sz, fun p3 h3 => ⟨_, rfl, sz, fun p4 h4 => ⟨sz, fun p5 h5 => ⟨sz, fun p6 h6 => ⟨sz, fun p7 h7 => ?_⟩⟩⟩⟩⟩⟩⟩⟩
      have o0 := Oth.new (S := []) (o := .tup [.str "num", .int 1]) h0
      have o1 := Oth.new (S := []) (o := .tup [.str "text", .str "a"]) h1
      have o3 := Oth.new (S := []) (o := .tup [.ref p1]) h2
      have o4 := Oth.new (S := []) (o := .tup [.str "num", .int 2]) h3
      have o5 := Oth.new (S := []) (o := .tup [.str "each", .ref p3, v]) h4
      have o6 := Oth.new (S := []) (o := .tup [.ref p4]) h5
      have o7 := Oth.new (S := []) (o := .tup [.str "when", .ref p0, .ref p2, .ref p5]) h6
      have o8 := Oth.new (S := []) (o := .tup [.ref p6]) h7
      have o78 := o7.trans o8
      have o68 := o6.trans o78
      have o58 := o5.trans o68
      have o48 := o4.trans o58
      have o38 := o3.trans o48
      have o18 := o1.trans o38
      refine ⟨_, _, rfl, o2.trans (o0.trans o18), ?_⟩
      rw [e8, show wrap1 kk (wraps (ks.take i) ts) = [.when (.num 1) [.text "a"] [.each (.num 2) (wraps (ks.take i) ts)]] from (if_neg hk0).trans (if_neg hk1)]
      exact .mk1 upd_same (.mk4 (o8.tup _ _ upd_same) (.str _) (.mk2 (o18.tup _ _ upd_same) (.str _) (.int _)) (.mk1 (o48.tup _ _ upd_same) (.mk2 (o38.tup _ _ upd_same) (.str _) (.str _)))
        (.mk1 (o78.tup _ _ upd_same) (.mk3 (o68.tup _ _ upd_same) (.str _) (.mk2 (o58.tup _ _ upd_same) (.str _) (.int _)) (tv.oth (o0.trans (o1.trans (o3.trans (o4.trans (o5.trans o68)))))))))
  · obtain ⟨x2, v, rfl, o2, tv⟩ := hW
    rw [List.length_map, List.take_length] at tv
    exact ⟨_, rfl, q v H2 tv o2⟩
theorem ok_changed {f fR fH : Addr} {fd dR dH : FuncData} {k : Nat} (F : Fun K "_law_changed" "_law_changed" sChanged f fd)
    (GR : FnOk P w K mg base CX0 k fR dR ["box", "many"] spDrawX) (bR : Binds K dR ["box", "many"] []) (kR : PySem.W.keepIn K (.ref fR) = true) (mR : mg "_law_draw" = some (.ref fR))
    (GH : FnOk P w K mg base CX0 k fH dH ["contents", "kinds"] spWrapped) (bH : Binds K dH ["contents", "kinds"] []) (kH : PySem.W.keepIn K (.ref fH) = true) (mH : mg "_law_wrapped" = some (.ref fH))
    (m_len : mg "len" = none) (m_range : mg "range" = none) (m_tuple : mg "tuple" = none) : FnOk P w K mg base CX0 (k + 1) f fd ["box", "program"] spChanged := by
  refine F.ok scChanged (fun vs H Q E h => ?_) (fun cdv A outer s H vs Q E' hr h => ?_)
  · obtain ⟨b, dg, pl, vp, g, j, rfl, _⟩ := h
    rfl
  obtain ⟨b, dg, pl, vp, g, j, rfl, bx, hg, gd, hj, q⟩ := h
  have nd := scChanged.nd
  refine ⟨_, (pss_cons (ps_set (i := 2) nd rfl (.inl rfl) (pe_call GR hr rfl mR kR bR .nil pass0 (pa_cons (pv 0) (pa_cons (pe_callB call_len_seq (by rfl) m_len PySem.boot_len (pa_cons (pe_ix ix_tup (pv 1) pe_int (fun _ _ => rfl)) pa_nil)) pa_nil))))
  (pss_cons (ps_set (i := 3) nd rfl (.inl rfl) (pe_ix ix_tup (pe_ix ix_tup (pv 1) pe_int (fun _ _ => rfl)) (pv 2) (fun _ _ => rfl)))
  (pss_cons (ps_set (i := 4) nd rfl (.inl rfl) (pe_ix ix_tup (pv 3) pe_int (fun _ _ => rfl)))
  (pss_cons (ps_set (i := 5) nd rfl (.inl rfl) (pe_ix ix_tup (pv 1) pe_int (fun _ _ => rfl)))
  (pss_cons (ps_set (i := 6) nd rfl (.inl rfl) (pe_call GR hr rfl mR kR bR .nil pass0 (pa_cons (pv 0) (pa_cons pe_int pa_nil))))
  (pss_cut (ps_if (pt_cmpR op_eq (pv 6) pe_int (nomark _))
  (pss_one (ps_set (i := 4) nd rfl (.inl rfl) (pe_op op_catA (pv 4) (pe_tup (pa_cons (pe_tup (pa_cons pe_str (pa_cons (pe_call GR hr rfl mR kR bR .nil pass0 (pa_cons (pv 0) (pa_cons pe_int pa_nil))) (pa_cons pe_non (pa_cons (pe_tup pa_nil) pa_nil))))) pa_nil)))))
  (pss_one (ps_if (pt_cmpR op_eq (pv 6) pe_int (nomark _))
  (pss_one (ps_set (i := 4) nd rfl (.inl rfl) (pe_op op_catA (pv 4) (pe_tup (pa_cons (pe_tup (pa_cons pe_str (pa_cons (pe_call GR hr rfl mR kR bR .nil pass0 (pa_cons (pv 0) (pa_cons pe_int pa_nil))) pa_nil))) pa_nil)))))
  (pss_one (ps_if (pt_cmpR op_eq (pv 6) pe_int (nomark _))
  (pss_one (ps_set (i := 4) nd rfl (.inl rfl) (pe_call GH hr rfl mH kH bH .nil pass0 (pa_cons (pv 4) (pa_cons (pe_lc (own := [("k", 7)]) (g := gName 7) (tt := tYes) rfl nd (pi_range1 (by rfl) m_range (pa_cons (pe_op op_add pe_int (pe_call GR hr rfl mR kR bR .nil pass0 (pa_cons (pv 0) (pa_cons pe_int pa_nil)))) pa_nil)) (blkOk_by (N := ["box", "program", "number", "row", "contents", "parts", "kind", "k"]) (sc := defScope sChanged) (by decide +kernel)) (fun _ _ _ _ _ => (pg_name (i := 7) nd rfl (.inl rfl))) (fun _ _ _ _ _ => pts_nil) (fun _ _ _ _ _ => (pe_call GR hr rfl mR kR bR .nil pass0 (pa_cons (pv 0) (pa_cons pe_int pa_nil))))) pa_nil)))))
  (pss_one (ps_if (pt_cmpR op_eq (pv 6) pe_int (nomark _))
  (pss_one (ps_set (i := 4) nd rfl (.inl rfl) (pe_op op_catA (pv 4) (pe_tupleOf (by rfl) m_tuple (pe_op op_rep (pe_lst (pa_cons (pe_tup (pa_cons pe_str (pa_cons pe_str pa_nil))) pa_nil)) (pe_op op_add pe_int (pe_call GR hr rfl mR kR bR .nil pass0 (pa_cons (pv 0) (pa_cons pe_int pa_nil)))))))))
  (pss_one (ps_if (pt_cmpR op_eq (pv 6) pe_int (nomark _))
  (pss_one (ps_set (i := 4) nd rfl (.inl rfl) (pe_slice sl_tupA (pv 4) po_none (po_some (pe_call GR hr rfl mR kR bR .nil pass0 (pa_cons (pv 0) (pa_cons (pe_op op_add pe_int (pe_callB call_len_seq (by rfl) m_len PySem.boot_len (pa_cons (pv 4) pa_nil))) pa_nil)))))))
  (pss_one (ps_if (pt_cmpR op_eq (pv 6) pe_int (nomark _))
  (pss_one (ps_set (i := 5) nd rfl (.inl rfl) (pe_op op_catA (pv 5) (pe_tup (pa_cons (pe_call GR hr rfl mR kR bR .nil pass0 (pa_cons (pv 0) (pa_cons pe_int pa_nil))) pa_nil)))))
  (pss_one (ps_set (i := 4) nd rfl (.inl rfl) (pe_op op_catA (pe_call GH hr rfl mH kH bH .nil pass0 (pa_cons (pe_tup (pa_cons (pe_tup (pa_cons pe_str (pa_cons (pe_call GR hr rfl mR kR bR .nil pass0 (pa_cons (pv 0) (pa_cons pe_int pa_nil))) pa_nil))) pa_nil)) (pa_cons (pe_lst (pa_cons (pe_call GR hr rfl mR kR bR .nil pass0 (pa_cons (pv 0) (pa_cons pe_int pa_nil))) pa_nil)) pa_nil))) (pv 4)))))))))))))))
  (pss_cons (ps_set (i := 3) nd rfl (.inl rfl) (pe_op op_catA (pe_slice sl_tupA (pv 3) po_none (po_some pe_int)) (pe_tup (pa_cons (pv 4) (pa_cons (pe_ix ix_tup (pv 3) pe_int (fun _ _ => rfl)) pa_nil)))))
  (pss_one (ps_ret (pe_tup (pa_cons pe_str (pa_cons (pe_op op_catA (pe_op op_catA (pe_slice sl_tupA (pe_ix ix_tup (pv 1) pe_int (fun _ _ => rfl)) po_none (po_some (pv 2))) (pe_tup (pa_cons (pv 3) pa_nil))) (pe_slice sl_tupA (pe_ix ix_tup (pv 1) pe_int (fun _ _ => rfl)) (po_some (pe_op op_add (pv 2) pe_int)) po_none)) (pa_cons (pe_ix ix_tup (pv 1) pe_int (fun _ _ => rfl)) (pa_cons (pv 5) pa_nil)))))))))))))), ?_⟩
  obtain ⟨a, cc, s', qq, cs, rfl, ea, ec, pc, es, eq⟩ := Pg.inv hg
  have lcs : cs.length = g.comps.length := by rw [(paired_get pc).1, List.length_map]
  have f3 := gd.many
  have hne : 0 < g.comps.length := List.length_pos_iff.mpr gd.ne
  refine ⟨_, rfl, _, rfl, a, _, _, _, rfl, rfl, SqT.of ea, at1, cc, _, rfl, .inr (SqT.of ec), b, dg, pl, _, rfl, by omega, bx, fun r0 H0 l0 u0 bx0 o0 => ?_⟩
  obtain ⟨n, rfl⟩ := Int.eq_ofNat_of_zero_le l0
  have hn : n < g.comps.length := by omega
  obtain ⟨c, gc⟩ : ∃ c, g.comps[n]? = some c := ⟨g.comps[n], List.getElem?_eq_getElem hn⟩
  obtain ⟨ci, gci⟩ : ∃ ci, cs[n]? = some ci := ⟨cs[n]'(by omega), List.getElem?_eq_getElem (by omega)⟩
  have hci : IsT H c.toT ci := (paired_get pc).2 n _ _ (by rw [List.getElem?_map, gc]; rfl) gci
  obtain ⟨ai, cx, cy, cz, rfl, eci, ecx, tcs, tca⟩ := Cm.inv hci
  have cg := gd.comps c (List.mem_of_getElem? gc)
  have cgd := cg.deps
  have cgc := cg.cnts
  refine ⟨_, rfl, a, _, _, _, rfl, rfl, SqT.of (o0.tup _ _ ea), at1, _, rfl, cc, _, _, _, rfl, rfl, SqT.of (o0.tup _ _ ec), atI_nat gci, ?_⟩
  refine ⟨_, rfl, ai, _, _, _, rfl, rfl, SqT.of (o0.tup _ _ eci), at2, ?_⟩
  refine ⟨_, rfl, a, _, _, _, rfl, rfl, SqT.of (o0.tup _ _ ea), at3, ?_⟩
  refine ⟨_, rfl, b, dg, pl, _, rfl, by decide, bx0, fun kind H1 l1 u1 bx1 o1 => ?_⟩
  have o01 := o0.trans o1
  have t1 := tcs.oth o01
  obtain ⟨cy', ys, hcy, ey, py⟩ := t1.inv
  cases hcy
  have lys : ys.length ≤ 1700 := by
    have := Tp.cnts_len c.cs
    rw [(paired_get py).1, Tp.toTs_map, List.length_map]
    omega
  have eq1 := o01.tup _ _ eq
  refine ⟨fun σ H' => ∃ (ts' : List Tp) (ps' : List Nat) (vc vp : V) (x7 : Option V), σ = [some (.ref b), some (.ref a), some (.int (n : Int)), some (.ref ai), some vc, some vp, some (.int kind), x7] ∧ CsOk (j + 1) ts' ∧ ps'.length ≤ 2 + (j + 1) ∧ (∀ m ∈ ps', m < 16) ∧ IsT H' (.tup (Tp.toTs ts')) vc ∧ IsT H' (natsT ps') vp ∧ Bx H' b dg pl ∧ Oth [b] H H', ?_, ?_⟩
  · have keepP : ∀ H', Oth [b] H1 H' → IsT H' (natsT g.parts) (.ref qq) := fun H' o => .mkNats (o.tup _ _ eq1)
    have pl1 := gd.pl
    refine ⟨_, rfl, rfl, _, rfl, ite2 (fun c0 => ?k0) (fun c0 => ⟨_, rfl, rfl, _, rfl, ite2 (fun c1 => ?k1) (fun c1 => ⟨_, rfl, rfl, _, rfl, ite2 (fun c2 => ?k2) (fun c2 => ⟨_, rfl, rfl, _, rfl, ite2 (fun c3 => ?k3) (fun c3 => ⟨_, rfl, rfl, _, rfl, ite2 (fun c4 => ?k4) (fun c4 => ⟨_, rfl, rfl, _, rfl, ite2 (fun c5 => ?k5) (fun c5 => ?k6)⟩)⟩)⟩)⟩)⟩)⟩
    case k0 =>
      refine ⟨_, rfl, _, rfl, b, dg, pl, _, rfl, by decide, bx1, fun r2 H2 l2 u2 bx2 o2 => ⟨sz, fun p0 h0 => ⟨sz, fun p1 h1 => ⟨sz, fun p2 h2 => ?_⟩⟩⟩⟩
      obtain ⟨m, rfl⟩ := Int.eq_ofNat_of_zero_le l2
      have q0 := Oth.new (S := [b]) (o := .tup []) h0
      have q1 := Oth.new (S := [b]) (o := .tup [.str "child", .int (m : Int), .non, .ref p0]) h1
      have q2 := Oth.new (S := [b]) (o := .tup [.ref p1]) h2
      have q02 := o2.trans (q0.trans (q1.trans q2))
      refine cat_t (q02.tup _ _ ey) upd_same (by simp; omega) fun c3 H3 o3 e3 => ?_
      have o13 := q02.trans (o3.mono (by simp))
      refine ⟨c.cs ++ [.child m none []], g.parts, _, _, _, rfl, (cg.add (ns := [.child m none []]) (by simp [Tp.deps, Tp.dep]) (by simp [Tp.cnts, Tp.cnt]) ⟨⟨by simp, by simp, by simp⟩, trivial⟩ (.one (slim_child (by omega) (by simp) (by simp) (by simp)))).1, by omega, gd.parts, ?_, keepP _ o13, (((bx2.new h0).new h1).new h2).oth o3 (by simp) (by simp) (by simp), o01.trans o13⟩
      exact cat_ts (paired_oth py q02) (bs := [.child m none []]) (.cons (.mk4 (q2.tup _ _ upd_same) (.str _) (.int _) .non (.mk ((q1.trans q2).tup _ _ upd_same) .nil)) .nil) o3 e3
    case k1 =>
      refine ⟨_, rfl, _, rfl, b, dg, pl, _, rfl, by decide, bx1, fun r2 H2 l2 u2 bx2 o2 => ⟨sz, fun p1 h1 => ⟨sz, fun p2 h2 => ?_⟩⟩⟩
      obtain ⟨m, rfl⟩ := Int.eq_ofNat_of_zero_le l2
      have q1 := Oth.new (S := [b]) (o := .tup [.str "part", .int (m : Int)]) h1
      have q2 := Oth.new (S := [b]) (o := .tup [.ref p1]) h2
      have q02 := o2.trans (q1.trans q2)
      refine cat_t (q02.tup _ _ ey) upd_same (by simp; omega) fun c3 H3 o3 e3 => ?_
      have o13 := q02.trans (o3.mono (by simp))
      refine ⟨c.cs ++ [.part m], g.parts, _, _, _, rfl, (cg.add (ns := [.part m]) (by simp [Tp.deps, Tp.dep]) (by simp [Tp.cnts, Tp.cnt]) ⟨trivial, trivial⟩ (.one (slim_part (by omega)))).1, by omega, gd.parts, ?_, keepP _ o13, ((bx2.new h1).new h2).oth o3 (by simp) (by simp) (by simp), o01.trans o13⟩
      exact cat_ts (paired_oth py q02) (bs := [.part m]) (.cons (.mk2 (q2.tup _ _ upd_same) (.str _) (.int _)) .nil) o3 e3
    case k2 =>
      refine ⟨_, rfl, _, rfl, b, dg, pl, _, rfl, by decide, bx1, fun m H2 l2 u2 bx2 o2 => ⟨_, _, rfl, rfl, _, rfl, by omega, by omega, fun D hD => lc_range (lo := 0) (n := (1 + m).toNat)
        (fun i H3 => Bx H3 b dg pl ∧ ∃ ks : List Int, H3 D = some (.lst (ks.map V.int)) ∧ ks.length = i ∧ (∀ k ∈ ks, 0 ≤ k ∧ k < 3) ∧ Oth [b, D] H2 H3)
        ⟨bx2.new hD, [], upd_same, rfl, by simp, Oth.new hD⟩ (fun i H3 hi hW => ?_) (fun H3 hW => ?_)⟩⟩
      · obtain ⟨bx3, ks, hD3, lk, sk, o3⟩ := hW
        have nbD : b ≠ D := bx2.nb hD
        refine ⟨rfl, ⟨_, rfl, b, dg, pl, _, rfl, by decide, bx3, fun r H4 l4 u4 bx4 o4 => ?_⟩⟩
        have hD4 := o4.keep D _ (by simp [nbD.symm]) hD3
        have op : Oth [D] H4 (upd H4 D (.lst (ks.map V.int ++ [.int r]))) := Oth.put (by simp) hD4
        exact ⟨_, hD4, small1000 (by rw [List.length_map]; omega), bx4.oth op (by simp [nbD]) (by simp [bx2.ndn hD]) (by simp [bx2.npn hD]), ks ++ [r], by rw [List.map_append]; exact upd_same, by rw [List.length_append, lk]; rfl, fun k hk => by
          rcases List.mem_append.mp hk with h | h
          · exact sk k h
          · rw [List.mem_singleton.mp h]; exact ⟨l4, u4⟩, o3.trans ((o4.mono (by simp)).trans (op.mono (by simp)))⟩
      · obtain ⟨bx3, ks, hD3, lk, sk, o3⟩ := hW
        have o3' := Oth.drop2 o3 hD
        have o13 := o2.trans o3'
        refine ⟨c.cs, _, D, ks, rfl, t1.oth o13, hD3, sk, fun v H4 tv o4 => ?_⟩
        have lk2 : ks.length ≤ 2 := by omega
        obtain ⟨w1, w2, w3, w4⟩ := wraps_ok ks cg.fines cg.slims
        have o14 := o13.trans (o4.mono (S' := [b]) (by simp))
        exact ⟨wraps ks c.cs, g.parts, v, _, _, rfl, ⟨by omega, by omega, w3, w4⟩, by omega, gd.parts, tv, keepP _ o14, bx3.oth o4 (by simp) (by simp) (by simp), o01.trans o14⟩
    case k3 =>
      refine ⟨_, rfl, sz, fun p0 h0 => ⟨sz, fun l hl => ⟨_, rfl, b, dg, pl, _, rfl, by decide, (bx1.new h0).new hl, fun m H2 l2 u2 bx2 o2 => ⟨_, _, rfl, rfl, l, _, _, rfl, rfl, ((bx1.new h0).lit hl o2), by omega, by omega, ?_, fun p1 h1 => .inl ⟨p1, _, rfl, SqL.of upd_same, fun t ht => ?_⟩⟩⟩⟩⟩
      · show 1 * (10 + m).toNat ≤ sizeLine
        rw [sizeLine_eq]
        omega
      · have q0 := Oth.new (S := [b]) (o := .tup [.str "text", .str "b"]) h0
        have ql := Oth.new (S := [b]) (o := .lst [.ref p0]) hl
        have q1 := Oth.new (S := [b]) (o := .lst (List.replicate (10 + m).toNat [V.ref p0]).flatten) h1
        have qt := Oth.new (S := [b]) (o := .tup (List.replicate (10 + m).toNat [V.ref p0]).flatten) ht
        have q02 := q0.trans (ql.trans (o2.trans (q1.trans qt)))
        obtain ⟨r1, r2, r3, r4, r5⟩ := rep_ok (10 + m).toNat
        have hrf : (List.replicate (10 + m).toNat [V.ref p0]).flatten = List.replicate (10 + m).toNat (V.ref p0) := rep_flat _ _
        refine cat_t (q02.tup _ _ ey) upd_same (by rw [hrf, List.length_replicate]; omega) fun c3 H3 o3 e3 => ?_
        have o13 := q02.trans (o3.mono (by simp))
        refine ⟨c.cs ++ List.replicate (10 + m).toNat (.text "b"), g.parts, _, _, _, rfl, (cg.add (ns := List.replicate (10 + m).toNat (.text "b")) (by omega) (by omega) r3 r4).1, by omega, gd.parts, ?_, keepP _ o13, ((bx2.new h1).new ht).oth o3 (by simp) (by simp) (by simp), o01.trans o13⟩
        refine cat_ts (paired_oth py q02) (bs := List.replicate (10 + m).toNat (.text "b")) ?_ o3 e3
        rw [r5]
        have z : ∀ ys, ys = List.replicate (10 + m).toNat (V.ref p0) → Paired (IsT _) (List.replicate (10 + m).toNat (Tp.text "b").toT) ys := fun ys e => by
          rw [e]
          exact paired_rep (.mk2 ((ql.trans (o2.trans (q1.trans qt))).tup _ _ upd_same) (.str _) (.str _)) _
        exact z _ hrf
    case k4 =>
      refine ⟨_, rfl, _, rfl, _, rfl, cy, _, rfl, .inr (SqT.of ey), _, _, rfl, rfl, b, dg, pl, _, rfl, by omega, bx1, fun m H2 l2 u2 bx2 o2 => ?_⟩
      obtain ⟨m, rfl⟩ := Int.eq_ofNat_of_zero_le l2
      refine ⟨_, rfl, sl_take (o2.tup _ _ ey) fun c3 H3 o3 e3 => ?_⟩
      have o13 := o2.trans (o3.mono (S' := [b]) (by simp))
      have z1 := deps_take c.cs m
      have z2 := cnts_take' c.cs m
      refine ⟨c.cs.take m, g.parts, _, _, _, rfl, ⟨by omega, by omega, fines_take _ _ cg.fines, cg.slims.take m⟩, by omega, gd.parts, .mk e3 (by rw [toTs_take]; exact paired_take (paired_oth py o13) m), keepP _ o13, bx2.oth o3 (by simp) (by simp) (by simp), o01.trans o13⟩
    case k5 =>
      refine ⟨_, rfl, _, rfl, b, dg, pl, _, rfl, by decide, bx1, fun m H2 l2 u2 bx2 o2 => ⟨sz, fun p1 h1 => ?_⟩⟩
      obtain ⟨m, rfl⟩ := Int.eq_ofNat_of_zero_le l2
      have q1 := Oth.new (S := [b]) (o := .tup [.int (m : Int)]) h1
      refine cat_t ((o2.trans q1).tup _ _ eq1) upd_same (by simp; omega) fun c3 H3 o3 e3 => ?_
      have o13 := o2.trans (q1.trans (o3.mono (by simp)))
      refine ⟨c.cs, g.parts ++ [m], _, _, _, rfl, ⟨by omega, by omega, cg.fines, cg.slims⟩, by simp; omega, fun u hu => ?_, t1.oth o13, .mkNats (by rw [e3, List.map_append]; rfl), (bx2.new h1).oth o3 (by simp) (by simp) (by simp), o01.trans o13⟩
      rcases List.mem_append.mp hu with h | h
      · exact gd.parts u h
      · rw [List.mem_singleton.mp h]; omega
    case k6 =>
      refine ⟨_, rfl, b, dg, pl, _, rfl, by decide, bx1, fun m H2 l2 u2 bx2 o2 => ⟨sz, fun p1 h1 => ⟨sz, fun p2 h2 => ⟨_, rfl, b, dg, pl, _, rfl, by decide, (bx2.new h1).new h2, fun r3 H3 l3 u3 bx3 o3 => ⟨sz, fun l hl => ?_⟩⟩⟩⟩⟩
      obtain ⟨m, rfl⟩ := Int.eq_ofNat_of_zero_le l2
      have q1 := Oth.new (S := [b]) (o := .tup [.str "part", .int (m : Int)]) h1
      have q2 := Oth.new (S := [b]) (o := .tup [.ref p1]) h2
      have ql := Oth.new (S := [b]) (o := .lst [.int r3]) hl
      have q3l := o3.trans ql
      refine ⟨[.part m], _, l, [r3], rfl, .mk1 (q3l.tup _ _ upd_same) (.mk2 ((q2.trans q3l).tup _ _ upd_same) (.str _) (.int _)), upd_same, by simp; omega, fun v H4 tv o4 => ⟨_, rfl, ?_⟩⟩
      obtain ⟨av, vs, rfl, ev, pv⟩ := tv.inv
      obtain ⟨w1, w2, w3, w4⟩ := wraps_ok [r3] (cs := [.part m]) ⟨trivial, trivial⟩ (.one (slim_part (by omega)))
      have o14 := o2.trans (q1.trans (q2.trans (q3l.trans (o4.mono (S' := [b]) (by simp)))))
      have lv : vs.length ≤ 100 := by
        have := Tp.cnts_len (wraps [r3] [.part m])
        rw [(paired_get pv).1, Tp.toTs_map, List.length_map]
        simp [Tp.cnts, Tp.cnt] at w2
        omega
      refine cat_t ev (o14.tup _ _ ey) (by omega) fun c3 H5 o5 e5 => ?_
      have o15 := o14.trans (o5.mono (S' := [b]) (by simp))
      simp only [List.length_singleton] at w1 w2
      refine ⟨wraps [r3] [.part m] ++ c.cs, g.parts, _, _, _, rfl, (cg.add (ns := wraps [r3] [.part m]) (by simp [Tp.deps, Tp.dep] at w1; omega) (by simp [Tp.cnts, Tp.cnt] at w2; omega) w3 w4).2, by omega, gd.parts, cat_ts pv (paired_oth py o14) o5 e5, keepP _ o15, ((bx3.new hl).oth o4 (by simp) (by simp) (by simp)).oth o5 (by simp) (by simp) (by simp), o01.trans o15⟩
  · rintro σ H2 ⟨ts', ps', vc, vp, x7, rfl, cok, lps, sps, tvc, tvp, bx2, o2⟩
    refine ⟨_, rfl, 2, rfl, sl_take (n := 2) (o2.tup _ _ eci) fun c3 H3 o3 e3 => ?_⟩
    have o23 := o2.trans (o3.mono (S' := [b]) (by simp))
    refine ⟨_, rfl, _, rfl, ai, _, _, _, rfl, rfl, SqT.of (o23.tup _ _ eci), at3, sz, fun p4 h4 => cat_t ((Oth.new (S := []) h4).tup _ _ e3) upd_same (by simp) fun c5 H5 o5 e5 => ?_⟩
    have o25 := o23.trans ((Oth.new (S := [b]) (o := .tup [vc, cz]) h4).trans (o5.mono (by simp)))
    have o2_5 : Oth [] H2 H5 := o3.trans ((Oth.new (S := []) (o := .tup [vc, cz]) h4).trans o5)
    have trow : IsT H5 (Cm.toT ⟨c.cells, ts', c.acts⟩) (.ref c5) := .mk4 e5 (.str _) (.mkNats (o25.tup _ _ ecx)) (tvc.oth o2_5) (tca.oth o25)
    have bx5 := bx2.oth o2_5 (by simp) (by simp) (by simp)
    refine ⟨_, rfl, a, _, _, _, rfl, rfl, SqT.of (o25.tup _ _ ea), at1, _, rfl, _, rfl, sl_take (o25.tup _ _ ec) fun c6 H6 o6 e6 => ?_⟩
    have p6 : Paired (IsT H6) ((g.comps.take n).map Cm.toT) (cs.take n) := by
      rw [List.map_take]
      exact paired_oth (paired_take (paired_oth pc o25) n) o6
    refine ⟨_, rfl, sz, fun p7 h7 => cat_t ((Oth.new (S := []) h7).tup _ _ e6) upd_same (by simp; omega) fun c8 H8 o8 e8 => ?_⟩
    have o68 := (Oth.new (S := []) (o := .tup [.ref c5]) h7).trans o8
    have o58 := o6.trans o68
    have o28 := o25.trans (o58.mono (S' := [b]) (by simp))
    refine ⟨_, rfl, a, _, _, _, rfl, rfl, SqT.of (o28.tup _ _ ea), at1, _, rfl, _, _, rfl, rfl, _, rfl, ?_⟩
    dsimp only [tNoPart]
    rw [show ((n : Int) + 1) = ((n + 1 : Nat) : Int) from rfl]
    refine sl_drop (n := n + 1) (o28.tup _ _ ec) (by omega) fun c9 H9 o9 e9 => cat_t (o9.tup _ _ e8) e9 (by simp; omega) fun c10 H10 o10 e10 => ?_
    have o8_10 := o9.trans o10
    have o2_10 := o28.trans (o8_10.mono (S' := [b]) (by simp))
    refine ⟨_, rfl, a, _, _, _, rfl, rfl, SqT.of (o2_10.tup _ _ ea), at2, _, rfl, sz, fun p11 h11 => ?_⟩
    have o11 := Oth.new (S := [b]) (o := .tup [.str "program", .ref c10, .ref s', vp]) h11
    have of := o2_10.trans o11
    have gok : Cm.Good (j + 1) ⟨c.cells, ts', c.acts⟩ := ⟨cok.deps, cok.cnts, cok.fines, cok.slims, cg.cl, cg.cells, cg.acts⟩
    refine q ⟨g.comps.take n ++ [⟨c.cells, ts', c.acts⟩] ++ g.comps.drop (n + 1), g.store, ps'⟩ _ _ ⟨?_, by simp, ?_, lps, sps, gd.sl, gd.store⟩ ?_ (((bx5.oth o58 (by simp) (by simp) (by simp)).oth o8_10 (by simp) (by simp) (by simp)).new h11) of
    · intro c' hc'
      rcases List.mem_append.mp hc' with h | h
      · rcases List.mem_append.mp h with h | h
        · exact (gd.comps c' (List.mem_of_mem_take h)).mono
        · rw [List.mem_singleton.mp h]; exact gok
      · exact (gd.comps c' (List.mem_of_mem_drop h)).mono
    · show (g.comps.take n ++ [_] ++ g.comps.drop (n + 1)).length ≤ 3
      simp
      omega
    · refine .mk4 upd_same (.str _) (.mk (o11.tup _ _ e10) ?_) (.mkNats (of.tup _ _ es)) (((tvp.oth o2_5).oth (o58.trans o8_10)).oth o11)
      show Paired _ ((g.comps.take n ++ [_] ++ g.comps.drop (n + 1)).map Cm.toT) _
      rw [List.map_append, List.map_append]
      refine paired_oth (paired_oth (paired_app (paired_app (paired_oth p6 o68) (.cons (trow.oth o58) .nil)) ?_) o8_10) o11
      rw [List.map_drop]
      exact paired_drop (paired_oth pc o28) (n + 1)
end
end Pw
namespace Pw
open PySem PySem.Spec PyProof.Rows L2
abbrev sLaw : Stmt := topS 32
theorem scLaw : FnScope ["script", "box", "program", "k", "due", "kept", "told", "e"] ["script"] (defScope sLaw) := ⟨rfl, rfl, rfl, by decide +kernel, rfl, by decide +kernel, by decide +kernel⟩
section
variable {P : Program} {w : World} {K : PySem.W.Frag} {mg : Str → Option Value} {base : Heap}
theorem run_law {T f fB fP fO fG fZ fS fI C D c : Addr} {fd dB dP dO dG dZ dS : FuncData} {k : Nat} {A : Around} {s : Shared} {H : Hp} {a : Addr} {ns : List Int} {E : XK} {Q : VK}
    (hr : Room k (A.deeper (envOfC "law" (defScope sLaw) s.heap.objs.size f (.ref c)))) (hA : A.guards = some [])
    (GB : FnOk P w K mg base CX0 k fB dB ["script", "first", "last"] (spBox K)) (bB : Binds K dB ["script", "first", "last"] []) (kB : PySem.W.keepIn K (.ref fB) = true) (mB : mg "_law_box" = some (.ref fB))
    (GP : FnOk P w K mg base CX0 k fP dP ["box"] spProgram1) (bP : Binds K dP ["box"] []) (kP : PySem.W.keepIn K (.ref fP) = true) (mP : mg "_law_program" = some (.ref fP))
    {fR : Addr} {dR : FuncData} (GR : FnOk P w K mg base CX0 k fR dR ["box", "many"] spDrawX) (bR : Binds K dR ["box", "many"] []) (kR : PySem.W.keepIn K (.ref fR) = true) (mR : mg "_law_draw" = some (.ref fR))
    (GO : FnOk P w K mg base CX0 k fO dO ["box", "program"] spChanged) (bO : Binds K dO ["box", "program"] []) (kO : PySem.W.keepIn K (.ref fO) = true) (mO : mg "_law_changed" = some (.ref fO))
    (GG : FnOk P w K mg base CX0 k fG dG ["program"] spFault) (bG : Binds K dG ["program"] []) (kG : PySem.W.keepIn K (.ref fG) = true) (mG : mg "_law_fault" = some (.ref fG))
    (GZ : FnOk P w K mg base (L2N.CX P w) k fZ dZ ["program"] (spCheck C T)) (bZ : Binds K dZ ["program"] []) (kZ : PySem.W.keepIn K (.ref fZ) = true) (mZ : mg "check" = some (.ref fZ))
    (GSH : L2H.FnH P w K mg base CX0 k fS dS ["actual", "expected"] (spSame 16)) (bS : Binds K dS ["actual", "expected"] []) (kS : PySem.W.keepIn K (.ref fS) = true) (mS : mg "_law_same" = some (.ref fS))
    (TC : FaultC K C fI) (TX : XIs K C) (TF : XfC K C) (mF : mg "ProgramFault" = some (.ref C)) (mD : mg "PageFault" = some (.ref D)) (x1 : PySem.W.exmOne K (.ref C) (.ref C) = some true) (x2 : PySem.W.kitOne K (.ref C) (.ref D) = some true) (xk3 : PySem.W.kitOne K (.ref C) (.type "ValueError") = some true)
    (m_range : mg "range" = none) (m_repr : mg "repr" = none) (m_isinstance : mg "isinstance" = none) (m_VE : mg "ValueError" = none)
    (hS : SqL K H a (ns.map V.int)) (tg : GxR.TabG H T) (q : ∀ H', Q (.bl true) H') :
    ∃ t, PSs (cxOf CX0 P w K mg base ["script", "box", "program", "k", "due", "kept", "told", "e"] "law" (defScope sLaw) f (.ref c) A [] s H E) (defBody sLaw) t ∧ t { nx := fun _ H' => Q .non H', rt := Q } (start ["script", "box", "program", "k", "due", "kept", "told", "e"] [.ref a]) H := by
  have nd := scLaw.nd
  have hgd : (A.deeper (envOfC "law" (defScope sLaw) s.heap.objs.size f (.ref c))).guards = some [] := hA
  have hu : (A.deeper (envOfC "law" (defScope sLaw) s.heap.objs.size f (.ref c))).units + 60 < cLine := by have := hr.un; omega
  have hrH : L2H.RoomH k (A.deeper (envOfC "law" (defScope sLaw) s.heap.objs.size f (.ref c))) := ⟨hr.dp, hr.un⟩
  have hotAt : ∀ {a : Addr} {oe : Obj} {cls : Value} {d : Option Addr} {pn : List (Addr × Obj)}, L2N.Zn cls d oe → (∃ vs, oe.data = .fields vs) → L2H.HotC ((cxOf CX0 P w K mg base ["script", "box", "program", "k", "due", "kept", "told", "e"] "law" (defScope sLaw) f (.ref c) A [] s H E).nox.suite a ((a, oe) :: pn)) := fun {a oe cls d pn} hz hf => by
    obtain ⟨vs, hv⟩ := hf
    exact ⟨(a, oe), ⟨rfl, vs, hv, hz.2.2 vs hv⟩, List.mem_cons_self⟩
  refine ⟨_, PSs.nox ((pss_cons (ps_set (i := 1) nd rfl (.inl rfl) (pe_call GB hr rfl mB kB bB .nil pass0 (pa_cons (pv 0) (pa_cons pe_int (pa_cons pe_int pa_nil)))))
  (pss_cons (ps_set (i := 2) nd rfl (.inl rfl) (pe_call GP hr rfl mP kP bP .nil pass0 (pa_cons (pv 1) pa_nil)))
  (pss_cons (ps_for PassesOwn.never rfl (pi_range1 (by rfl) m_range (pa_cons (pe_call GR hr rfl mR kR bR .nil pass0 (pa_cons (pv 1) (pa_cons pe_int pa_nil))) pa_nil)) (pg_name (i := 3) nd rfl (.inl rfl))
  (pss_one (ps_set (i := 2) nd rfl (.inl rfl) (pe_call GO hr rfl mO kO bO .nil pass0 (pa_cons (pv 1) (pa_cons (pv 2) pa_nil))))))
  (pss_cons (ps_set (i := 4) nd rfl (.inl rfl) (pe_call GG hr rfl mG kG bG .nil pass0 (pa_cons (pv 2) pa_nil)))
  (pss_cons (ps_set (i := 5) nd rfl (.inl rfl) (pe_callB (call_reprT hgd hu) (by rfl) m_repr bo_repr (pa_cons (pv 2) pa_nil)))
  (pss_one (L2N.ps_try_as (i := 7) rfl rfl nd rfl rfl ⟨rfl, by decide, .inl mF⟩ takesN (fun W pn xe tk _ =>
   (pss_cons (ps_set (i := 6) nd rfl (.inl rfl) (pe_callS GZ hr rfl mZ kZ bZ (fun σ => L2N.passAt tk σ) (pa_cons (pv 2) pa_nil)))
   (pss_one (ps_ret (pe_and (pe_cmpR op_isN (pv 4) pe_non (nomark _)) (pe_and (pe_cmpR op_isN (pv 6) pe_non (nomark _)) (pe_one (pe_cmpR op_eq (pe_callB (call_reprT hgd hu) (by rfl) m_repr bo_repr (pa_cons (pv 2) pa_nil)) (pv 5) (nomark _)))))))))
  (fun a oe cls d pn hz hf =>
   have hotc := hotAt hz hf
   (pss_cons (ps_if (PW.pt (pw_or (pt_cmpR op_isN (pv 4) pe_non (nomark _)) (pw_or (pt_not (pt_val (pe_callB (call_isX TX hz.zc hf) (by rfl) m_isinstance bo_isi (pa_cons (pv 7) (pa_cons (pe_glob (v := .ref D) (by rfl) mD rfl) pa_nil))))) (pw_or1 (pt_not (pt_val (pe_callB (call_isX TX hz.zc hf) (by rfl) m_isinstance bo_isi (pa_cons (pv 7) (pa_cons (pe_bltn (v := .ty "ValueError") (by rfl) m_VE bo_VE rfl) pa_nil)))))))))
     (pss_one (ps_ret pe_bl)) pss_nil)
   (pss_one (ps_ret (pe_and (L2H.pe_callH (E := fun _ => E0) GSH ⟨hr.dp, hr.un⟩ hotc rfl mS kS bS (fun _ _ _ _ _ _ _ h => h.elim) (pa_cons (pe_tup (pa_cons (pe_xf TF TC.f1 hz.zc hf (pv 7)) (pa_cons (pe_xf TF TC.f2 hz.zc hf (pv 7)) (pa_cons (pe_xf TF TC.f3 hz.zc hf (pv 7)) pa_nil)))) (pa_cons (pv 4) pa_nil)))
      (pe_one (pe_cmpR op_eq (pe_callB (call_reprT hgd hu) (by rfl) m_repr bo_repr (pa_cons (pv 2) pa_nil)) (pv 5) (nomark _)))))))))))))))), ?_⟩
  obtain ⟨tb, etb, ttb⟩ := tg
  refine ⟨_, rfl, a, ns, 0, 63, rfl, hS, by omega, by omega, fun b d pl H1 hb o1 bx => ?_⟩
  have nTb : T ≠ b := ne_of_none etb hb
  have tg1 : H1 T = some (.tbl tb) := o1.keep T _ (by simp) etb
  refine ⟨_, rfl, b, d, pl, rfl, bx, fun g v pl2 H2 gd tv bx2 o2 => ?_⟩
  refine ⟨_, rfl, b, d, pl2, _, rfl, by decide, bx2, fun m H3 l3 u3 bx3 o3 => ?_⟩
  refine ⟨_, rfl, by omega, by omega, for_range (lo := 0) (n := m.toNat)
    (fun i σ H4 => ∃ (x3 : Option V) (g : Pg) (v : V), σ = [some (.ref a), some (.ref b), some v, x3, none, none, none, none] ∧ g.Good i ∧ IsT H4 g.toT v ∧ Bx H4 b d pl2 ∧ Oth [b] H1 H4)
    ⟨none, g, v, rfl, gd, tv.oth o3, bx3, o2.trans o3⟩ (fun i σ H4 hi hW => ?_) (fun σ H4 hW => ?_)⟩
  · obtain ⟨x3, g', v', rfl, gd', tv', bx4, o4⟩ := hW
    exact ⟨_, rfl, _, rfl, b, d, pl2, v', g', i, rfl, bx4, tv', gd', by omega, fun g2 v2 H5 gd2 tv2 bx5 o5 => ⟨_, g2, v2, rfl, gd2, tv2, bx5, o4.trans o5⟩⟩
  · obtain ⟨x3, g', v', rfl, gd', tv', bx4, o4⟩ := hW
    have hj : m.toNat ≤ 2 := by omega
    have fit := gd'.fit hj
    have sh := Pg.shape gd' hj
    refine ⟨_, rfl, g', v', rfl, tv', fit, gd'.ne, fun vd H5 tvd o5 => ?_⟩
    have tv5 := tv'.oth o5
    have tg5 : GxR.TabG H5 T := ⟨tb, (o4.trans (o5.mono (S' := [b]) (by simp))).keep T _ (by simp [nTb]) tg1, ttb⟩
    refine ⟨_, rfl, g'.rows, v', rfl, tv5, sh.1, sh.2.1, sh.2.2, ?_⟩
    refine ⟨_, rfl, g', v', rfl, tv5, fit, gd'.ne, tg5, ?_⟩
    cases hf : progFault g' with
    | none =>
      rw [hf] at tvd
      obtain rfl := tvd.of_non
      intro H6 o6 tg6
      refine ⟨_, rfl, rfl, _, rfl, iteTd rfl ⟨_, rfl, rfl, _, rfl, iteTd rfl ⟨_, rfl, g'.rows, v', rfl, tv5.oth o6, sh.1, sh.2.1, sh.2.2, _, rfl, rfl, ?_⟩⟩⟩
      rw [decide_eq_true rfl]
      exact q _
    | some fl =>
      rw [hf] at tvd
      intro dd vp H6 e6 tp o6
      have o56 := o6
      have tvd6 := tvd.oth o6
      obtain ⟨ad, had, ead⟩ : ∃ ad, vd = .ref ad ∧ True := by
        obtain ⟨ad, xs, rfl, _⟩ := tvd.inv
        exact ⟨ad, rfl, trivial⟩
      subst had
      refine ⟨true, x1, fun _ ae hae => ?_, fun h => Bool.noConfusion h⟩
      refine ⟨_, rfl, rfl, _, rfl, iteFd (by intro h; cases h) ?_⟩
      refine ⟨_, rfl, V.ref D, .ref D, true, dd, _, rfl, fun u h => h, x2, rfl, rfl, e6, _, rfl, iteFb rfl ?_⟩
      refine ⟨_, rfl, V.ty "ValueError", .type "ValueError", true, dd, _, rfl, fun u h => h, xk3, rfl, rfl, e6, _, rfl, iteFb rfl ?_⟩
      refine ⟨_, rfl, rfl, rfl, dd, _, _, rfl, e6, fl_c _ _ _, _, rfl, rfl, rfl, dd, _, _, rfl, e6, fl_p _ _ _, _, rfl, rfl, rfl, dd, _, _, rfl, e6, fl_r _ _ _, sz, fun t ht => ?_⟩
      have ot := Oth.new (S := []) (o := .tup [.int fl.1, vp, .str fl.2.2]) ht
      refine ⟨_, rfl, faultT (some fl), _, _, rfl, .mk3 upd_same (.int _) (tp.oth ot) (.str _), tvd6.oth ot, faultT_dep (progFault_len fit hf), _, rfl, iteT ?_⟩
      refine ⟨_, rfl, g'.rows, v', rfl, (tv5.oth o6).oth ot, sh.1, sh.2.1, sh.2.2, _, rfl, rfl, ?_⟩
      rw [decide_eq_true rfl]
      exact q _
end
end Pw
namespace Pw
open PySem PySem.Spec PyProof.Rows L2
theorem fn_none {P : Program} {w : World} {K : PySem.W.Frag} {mg : Str → Option Value} {base : Heap} {f : Addr} {fd : FuncData} {ps : List Str} {k : Nat} {sp : Sp} (len : ∀ vs H Q E, sp vs H Q E → vs.length = ps.length) (no : ∀ vs H Q E, ¬ sp vs H Q E) : FnOk P w K mg base CX0 k f fd ps sp :=
  ⟨len, fun A outer s H args us vs Q E _ _ _ _ h => absurd h (no vs H Q E)⟩
section
variable {P : Program} {w : World} {K : PySem.W.Frag} {mg : Str → Option Value} {base : Heap}
theorem all_walk {f g : Addr} {fd gd : FuncData} (F : Fun K "_walk" "_walk" sWalk f fd) (bW : Binds K fd ["contents", "before", "around"] []) (kW : PySem.W.keepIn K (.ref f) = true) (mW : mg "_walk" = some (.ref f))
    (GI : FnOk P w K mg base CX0 1 g gd ["template"] spWithin) (bI : Binds K gd ["template"] []) (kI : PySem.W.keepIn K (.ref g) = true) (mI : mg "_rows_within" = some (.ref g)) (m_enumerate : mg "enumerate" = none) :
    ∀ n : Nat, FnOk P w K mg base CX0 (n + 1) f fd ["contents", "before", "around"] (spWalk n)
  | 0 => fn_none (fun vs H Q E h => by obtain ⟨ts, pl, ar, vc, vb, va, rfl, _⟩ := h; rfl) fun vs H Q E h => by obtain ⟨ts, pl, ar, vc, vb, va, _, _, _, _, h, _⟩ := h; omega
  | n + 1 => ok_walk (k := n + 1) F (all_walk F bW kW mW GI bI kI mI m_enumerate n) bW kW mW (GI.mono (by omega)) bI kI mI m_enumerate
theorem all_expr {f g : Addr} {fd gd : FuncData} (F : Fun K "_law_expr" "_law_expr" sExpr f fd) (bE : Binds K fd ["box", "depth"] []) (kE : PySem.W.keepIn K (.ref f) = true) (mE : mg "_law_expr" = some (.ref f))
    (GR : FnOk P w K mg base CX0 1 g gd ["box", "many"] spDrawX) (bR : Binds K gd ["box", "many"] []) (kR : PySem.W.keepIn K (.ref g) = true) (mR : mg "_law_draw" = some (.ref g)) (m_int : mg "int" = none) :
    ∀ n : Nat, FnOk P w K mg base CX0 (n + 1) f fd ["box", "depth"] (spExpr1 n)
  | 0 => fn_none (fun vs H Q E h => by obtain ⟨b, dg, pl, d, rfl, _⟩ := h; rfl) fun vs H Q E h => by obtain ⟨b, dg, pl, d, _, h, _⟩ := h; omega
  | n + 1 => ok_expr (k := n + 1) F (all_expr F bE kE mE GR bR kR mR m_int n) bE kE mE (GR.mono (by omega)) bR kR mR m_int
theorem all_tpl {fT fN fE fR fK : Addr} {dT dN dE dR dK : FuncData} (FT : Fun K "_law_template" "_law_template" sTemplate fT dT) (FN : Fun K "_law_contents" "_law_contents" sContents fN dN)
    (GE : FnOk P w K mg base CX0 3 fE dE ["box", "depth"] (spExpr1 2)) (bE : Binds K dE ["box", "depth"] []) (kE : PySem.W.keepIn K (.ref fE) = true) (mE : mg "_law_expr" = some (.ref fE))
    (GR : FnOk P w K mg base CX0 1 fR dR ["box", "many"] spDrawX) (bR : Binds K dR ["box", "many"] []) (kR : PySem.W.keepIn K (.ref fR) = true) (mR : mg "_law_draw" = some (.ref fR))
    (GK : FnOk P w K mg base CX0 4 fK dK ["box"] spKey1) (bK : Binds K dK ["box"] []) (kK : PySem.W.keepIn K (.ref fK) = true) (mK : mg "_law_key" = some (.ref fK))
    (bT : Binds K dT ["box", "own", "level", "last", "free"] []) (kT : PySem.W.keepIn K (.ref fT) = true) (mT : mg "_law_template" = some (.ref fT))
    (bN : Binds K dN ["box", "own", "level", "last", "free"] []) (kN : PySem.W.keepIn K (.ref fN) = true) (mN : mg "_law_contents" = some (.ref fN))
    (m_int : mg "int" = none) (m_len : mg "len" = none) (m_range : mg "range" = none) (m_tuple : mg "tuple" = none) :
    ∀ n : Nat, FnOk P w K mg base CX0 (4 + 2 * n) fT dT ["box", "own", "level", "last", "free"] (spTemplate1 n) ∧ FnOk P w K mg base CX0 (5 + 2 * n) fN dN ["box", "own", "level", "last", "free"] (spContents1 n)
  | 0 => by
    have t0 : FnOk P w K mg base CX0 4 fT dT ["box", "own", "level", "last", "free"] (spTemplate1 0) := fn_none (fun vs H Q E h => by obtain ⟨b, dg, pl, own, level, last, r, free, rfl, _⟩ := h; rfl) fun vs H Q E h => by obtain ⟨b, dg, pl, own, level, last, r, free, _, _, h, _⟩ := h; omega
    exact ⟨t0, ok_contents (k := 4) FN (GR.mono (by omega)) bR kR mR t0 bT kT mT m_range m_tuple⟩
  | n + 1 => by
    obtain ⟨_, c⟩ := all_tpl FT FN GE bE kE mE GR bR kR mR GK bK kK mK bT kT mT bN kN mN m_int m_len m_range m_tuple n
    have t1 := ok_template (k := 5 + 2 * n) FT (GE.mono (by omega)) bE kE mE (GR.mono (by omega)) bR kR mR (GK.mono (by omega)) bK kK mK c bN kN mN m_int m_len m_range m_tuple
    have t2 : FnOk P w K mg base CX0 (4 + 2 * (n + 1)) fT dT ["box", "own", "level", "last", "free"] (spTemplate1 (n + 1)) := t1.mono (by omega)
    exact ⟨t2, (ok_contents (k := 4 + 2 * (n + 1)) FN (GR.mono (by omega)) bR kR mR t2 bT kT mT m_range m_tuple).mono (by omega)⟩

theorem all_listed {f : Addr} {fd : FuncData} (F : Fun K "_law_listed" "_law_listed" sListed f fd) (bL : Binds K fd ["contents", "before", "around"] []) (kL : PySem.W.keepIn K (.ref f) = true) (mL : mg "_law_listed" = some (.ref f))
    (m_range : mg "range" = none) (m_len : mg "len" = none) :
    ∀ n : Nat, FnOk P w K mg base CX0 n f fd ["contents", "before", "around"] (spListed1 n)
  | 0 => fn_none (fun vs H Q E h => by obtain ⟨ts, pl, ar, vc, vb, aa, rfl, _⟩ := h; rfl) fun vs H Q E h => by obtain ⟨ts, pl, ar, vc, vb, aa, _, _, _, _, h, _⟩ := h; omega
  | n + 1 => ok_listed (k := n) F (all_listed F bL kL mL m_range m_len n) bL kL mL m_range m_len
theorem all_sameH {f : Addr} {fd : FuncData} (F : Fun K "_law_same" "_law_same" sSame f fd) (bS : Binds K fd ["actual", "expected"] []) (kS : PySem.W.keepIn K (.ref f) = true) (mS : mg "_law_same" = some (.ref f))
    (m_isinstance : mg "isinstance" = none) (m_tuple : mg "tuple" = none) (m_len : mg "len" = none) (m_range : mg "range" = none) (m_bool : mg "bool" = none) (m_int : mg "int" = none) (m_str : mg "str" = none) :
    ∀ n : Nat, L2H.FnH P w K mg base CX0 (n + 1) f fd ["actual", "expected"] (spSame n)
  | 0 => ⟨fun vs H Q E h => by obtain ⟨t, v, u, rfl, _⟩ := h; rfl, fun A outer s H args us vs Q E p _ _ _ _ _ _ h => by obtain ⟨t, v, u, _, _, _, h, _⟩ := h; cases h⟩
  | n + 1 => ok_sameH F (all_sameH F bS kS mS m_isinstance m_tuple m_len m_range m_bool m_int m_str n) bS kS mS m_isinstance m_tuple m_len m_range m_bool m_int m_str
end
theorem kit_own {K : PySem.W.Frag} {t : Value} {D : Addr} (h1 : (PySem.W.clsIn K D).isSome = true) (h2 : PySem.W.typeIn K (.ref D) = some (.type "type")) (h3 : PySem.W.subIn K t (.ref D) = some true) : PySem.W.kitOne K t (.ref D) = some true := by
  unfold PySem.W.kitOne
  split
  · rfl
  · show (if ((PySem.W.clsIn K D).isSome && PySem.W.typeIn K (.ref D) == some (.type "type")) = true then PySem.W.subIn K t (.ref D) else none) = some true
    rw [if_pos (by rw [h1, h2]; rfl)]
    exact h3
theorem kit_VE {K : PySem.W.Frag} {t : Value} (h3 : PySem.W.subIn K t (.type "ValueError") = some true) : PySem.W.kitOne K t (.type "ValueError") = some true := by
  unfold PySem.W.kitOne
  split
  · rfl
  · show (if PySem.W.kitMeta "ValueError" = true then PySem.W.subIn K t (.type "ValueError") else none) = some true
    rw [if_pos (by decide +kernel)]
    exact h3
theorem exm_own {K : PySem.W.Frag} {t : Value} {D : Addr} (h0 : PySem.W.subIn K (.ref D) (.type "BaseException") = some true) (h1 : (PySem.W.clsIn K D).isSome = true) (h2 : PySem.W.typeIn K (.ref D) = some (.type "type")) (h3 : PySem.W.subIn K t (.ref D) = some true) : PySem.W.exmOne K t (.ref D) = some true := by
  unfold PySem.W.exmOne
  rw [if_pos (by rw [h0]; rfl)]
  show (if ((PySem.W.clsIn K D).isSome && PySem.W.typeIn K (.ref D) == some (.type "type")) = true then PySem.W.subIn K t (.ref D) else none) = some true
  rw [if_pos (by rw [h1, h2]; rfl)]
  exact h3
/-- what is known of the law's run -/
def LawG (l : PySem.W.OpenLaw) (w : World) (K : PySem.W.Frag) (mg : Str → Option Value) (fa : Addr) (h : Heap) : Prop :=
  ∃ cs : List (Addr × Addr), (∀ p ∈ cs, h.get? p.2 = some { cls := .none, data := .fields #[] }) ∧ (∀ p ∈ cs, K.lookup p.2 = none) ∧ (∀ p ∈ cs, PySem.W.CodeHd h p.1 p.2) ∧
    ∀ (s : Shared) (a : Addr) (ns : List Int) (base : Heap) (H : Hp), ns.length ≤ 63 → (∀ p ∈ cs, GxR.TabB base mg p.1 p.2) → Env0 l.prog w K mg base callerA [] s H → (∀ p ∈ cs, H p.2 = some (.tbl #[])) → SqL K H a (ns.map V.int) →
      codeAny (model l.prog w) callerA (.call (.ref fa) ⟨[.ref a], []⟩) (CR CX0 [] l.prog w H s (fun v _ => v = .bl true) fun _ _ _ => False) s
theorem walk_G {l : PySem.W.OpenLaw} {q : Program} {loose : List Str} {XP : (Str → Option Value) → Heap → Prop} {YP : World → Heap → Prop} {d : DefRec} {K : Params → PySem.W.Frag} {nm : Str}
    (hn : l.most = some 63) (hdf : d.params.defaults = []) (hrec : ((recsOf q).any fun e => e.name == nm) = true) (hY : ∀ (w : World) (h : Heap), YP w h → (K w.params).In h)
    (F : ∀ (w : World) (mg : Str → Option Value) (fa f : Addr) (h : Heap), (K w.params).In h → h.Ns mainGlobals mg → mg d.name = some (.ref fa) → mg nm = some (.ref f) → TabAt (K w.params) f h → LawG l w (K w.params) mg fa h) :
    PySem.W.WalkO q loose XP YP l.row.toRowW d [] (fun f vs => PySem.call f vs) := by
  refine Att.attach_callB hn hdf fun w s0 s1 mg mb fa o pm cd doc a vs ns G Y ho hd hcd hmg hobj hints hlen hbits hg => ?_
  have KX := hY w _ Y
  obtain ⟨e, em, en⟩ := List.any_eq_true.mp hrec
  obtain ⟨f, o', fd', c', P', h1, h2, h3, h4, h5, h6⟩ := G.T.tab e em
  rw [beq_iff_eq.mp en] at h1
  have own : TabAt (K w.params) f s1.heap := by
    intro c P o1 fd1 ee dd vs1 sl k1 k2 k3 k4 k5
    have g1 := KX _ _ k1
    rw [h2] at g1
    cases g1
    rw [h3] at k2
    cases k2
    rw [h4] at k3
    cases k3
    have cd := PySem.W.CodeHd.of h5 h6
    obtain ⟨⟨oc, vc, e1, e2, e3, e4⟩, hP⟩ := h6
    have g2 := KX _ _ k4
    rw [e1] at g2
    cases g2
    cases e3
    rw [e4] at k5
    cases k5
    exact ⟨hP, cd⟩
  obtain ⟨cs, hT, nT, C, R⟩ := F w mg fa f _ KX G.T.g hmg h1 own
  exact law_top KX G.T.g G.T.b G.T.builtins G.T.nolimit hg hT nT C G.T.bmain hobj hints (Nat.le_trans hlen (by decide)) fun base H tb e0 ht hS => R _ a ns base H hlen tb e0 ht hS
theorem all_mk {l : PySem.W.OpenLaw} {w : World} {K : PySem.W.Frag} {h : Heap} {mg : Str → Option Value} {fa fm fM fW fI fU fX fY fV fQ fZ fC fD fR fS fE fK fT fN fA fP fB fL fJ fG fH fO fw fInit Cx Dx cM cw tM Nx : Addr} (X : K.In h) (G : h.Ns mainGlobals mg) (hfa : mg "law" = some (.ref fa)) (hfm : mg "templates" = some (.ref fm)) (tab : TabAt K fm h)
    {odM anM odW anW odI anI odU anU odX anX odY anY odV anV odQ anQ odZ anZ odC anC odD anD odR anR odS anS odE anE odK anK odT anT odN anN odA anA odP anP odB anB odL anL odJ anJ odG anG odH anH odO anO odw anw odInit anInit ddM ddx : Option Addr} {slM slW slI slU slX slY slV slQ slZ slC slD slR slS slE slK slT slN slA slP slB slL slJ slG slH slO slw slInit slM2 : Array (Option Value)} {ocW kVW dcW pmW cdW ctW ocI kVI dcI pmI cdI ctI ocU kVU dcU pmU cdU ctU ocX kVX dcX pmX cdX ctX ocY kVY dcY pmY cdY ctY ocV kVV dcV pmV cdV ctV ocQ kVQ dcQ pmQ cdQ ctQ ocZ kVZ dcZ pmZ cdZ ctZ ocC kVC dcC pmC cdC ctC ocD kVD dcD pmD cdD ctD ocR kVR dcR pmR cdR ctR ocS kVS dcS pmS cdS ctS ocE kVE dcE pmE cdE ctE ocK kVK dcK pmK cdK ctK ocT kVT dcT pmT cdT ctT ocN kVN dcN pmN cdN ctN ocA kVA dcA pmA cdA ctA ocP kVP dcP pmP cdP ctP ocB kVB dcB pmB cdB ctB ocL kVL dcL pmL cdL ctL ocJ kVJ dcJ pmJ cdJ ctJ ocG kVG dcG pmG cdG ctG ocH kVH dcH pmH cdH ctH ocO kVO dcO pmO cdO ctO ocInit kVInit dcInit pmInit cdInit ctInit ocM kVM dcM pmM ctM ocw kVw dcw pmw ctw ceM : Value} {vsM : Array Value} {tkA tkT : Tok} {nmx qx : Str} {bsx bmx sbx : List Value} {snx : List Str} {abx : Bool} {colx : Option Bool} {k0x k1x k2x k3x k5x : Option Value}
    (aM : PySem.W.nsIn K mainGlobals "templates" = some (some (.ref fM))) (lM : K.lookup fM = some ⟨ocM, odM, .func (PySem.W.fnOf "templates" "templates" (defArgs sTemplates) (defBody sTemplates) (defScope sTemplates) .none kVM dcM pmM anM (.ref cM) ctM), slM⟩) (hcM : PySem.W.codeIn K (.ref cM) "templates" = true) (kM : PySem.W.keepIn K (.ref fM) = true)
    (aW : PySem.W.nsIn K mainGlobals "_walk" = some (some (.ref fW))) (lW : K.lookup fW = some ⟨ocW, odW, .func (PySem.W.fnOf "_walk" "_walk" (defArgs sWalk) (defBody sWalk) (defScope sWalk) .none kVW dcW pmW anW cdW ctW), slW⟩) (hcW : PySem.W.codeIn K cdW "_walk" = true) (kW : PySem.W.keepIn K (.ref fW) = true)
    (aI : PySem.W.nsIn K mainGlobals "_rows_within" = some (some (.ref fI))) (lI : K.lookup fI = some ⟨ocI, odI, .func (PySem.W.fnOf "_rows_within" "_rows_within" (defArgs sWithin) (defBody sWithin) (defScope sWithin) .none kVI dcI pmI anI cdI ctI), slI⟩) (hcI : PySem.W.codeIn K cdI "_rows_within" = true) (kI : PySem.W.keepIn K (.ref fI) = true)
    (aU : PySem.W.nsIn K mainGlobals "_check_component" = some (some (.ref fU))) (lU : K.lookup fU = some ⟨ocU, odU, .func (PySem.W.fnOf "_check_component" "_check_component" (defArgs sComp) (defBody sComp) (defScope sComp) .none kVU dcU pmU anU cdU ctU), slU⟩) (hcU : PySem.W.codeIn K cdU "_check_component" = true) (kU : PySem.W.keepIn K (.ref fU) = true)
    (aX : PySem.W.nsIn K mainGlobals "_reason" = some (some (.ref fX))) (lX : K.lookup fX = some ⟨ocX, odX, .func (PySem.W.fnOf "_reason" "_reason" (defArgs sReason) (defBody sReason) (defScope sReason) .none kVX dcX pmX anX cdX ctX), slX⟩) (hcX : PySem.W.codeIn K cdX "_reason" = true) (kX : PySem.W.keepIn K (.ref fX) = true)
    (aY : PySem.W.nsIn K mainGlobals "_reason_of_part" = some (some (.ref fY))) (lY : K.lookup fY = some ⟨ocY, odY, .func (PySem.W.fnOf "_reason_of_part" "_reason_of_part" (defArgs sReasonPart) (defBody sReasonPart) (defScope sReasonPart) .none kVY dcY pmY anY cdY ctY), slY⟩) (hcY : PySem.W.codeIn K cdY "_reason_of_part" = true) (kY : PySem.W.keepIn K (.ref fY) = true)
    (aV : PySem.W.nsIn K mainGlobals "_check_parts" = some (some (.ref fV))) (lV : K.lookup fV = some ⟨ocV, odV, .func (PySem.W.fnOf "_check_parts" "_check_parts" (defArgs sParts) (defBody sParts) (defScope sParts) .none kVV dcV pmV anV cdV ctV), slV⟩) (hcV : PySem.W.codeIn K cdV "_check_parts" = true) (kV : PySem.W.keepIn K (.ref fV) = true)
    (aQ : PySem.W.nsIn K mainGlobals "_parts_placed" = some (some (.ref fQ))) (lQ : K.lookup fQ = some ⟨ocQ, odQ, .func (PySem.W.fnOf "_parts_placed" "_parts_placed" (defArgs sPlaced) (defBody sPlaced) (defScope sPlaced) .none kVQ dcQ pmQ anQ cdQ ctQ), slQ⟩) (hcQ : PySem.W.codeIn K cdQ "_parts_placed" = true) (kQ : PySem.W.keepIn K (.ref fQ) = true)
    (aZ : PySem.W.nsIn K mainGlobals "check" = some (some (.ref fZ))) (lZ : K.lookup fZ = some ⟨ocZ, odZ, .func (PySem.W.fnOf "check" "check" (defArgs sCheck) (defBody sCheck) (defScope sCheck) .none kVZ dcZ pmZ anZ cdZ ctZ), slZ⟩) (hcZ : PySem.W.codeIn K cdZ "check" = true) (kZ : PySem.W.keepIn K (.ref fZ) = true)
    (aC : PySem.W.nsIn K mainGlobals "_law_cell" = some (some (.ref fC))) (lC : K.lookup fC = some ⟨ocC, odC, .func (PySem.W.fnOf "_law_cell" "_law_cell" (defArgs sCell) (defBody sCell) (defScope sCell) .none kVC dcC pmC anC cdC ctC), slC⟩) (hcC : PySem.W.codeIn K cdC "_law_cell" = true) (kC : PySem.W.keepIn K (.ref fC) = true)
    (aD : PySem.W.nsIn K mainGlobals "_law_digits" = some (some (.ref fD))) (lD : K.lookup fD = some ⟨ocD, odD, .func (PySem.W.fnOf "_law_digits" "_law_digits" (defArgs sDigits) (defBody sDigits) (defScope sDigits) .none kVD dcD pmD anD cdD ctD), slD⟩) (hcD : PySem.W.codeIn K cdD "_law_digits" = true) (kD : PySem.W.keepIn K (.ref fD) = true)
    (aR : PySem.W.nsIn K mainGlobals "_law_draw" = some (some (.ref fR))) (lR : K.lookup fR = some ⟨ocR, odR, .func (PySem.W.fnOf "_law_draw" "_law_draw" (defArgs sDraw) (defBody sDraw) (defScope sDraw) .none kVR dcR pmR anR cdR ctR), slR⟩) (hcR : PySem.W.codeIn K cdR "_law_draw" = true) (kR : PySem.W.keepIn K (.ref fR) = true)
    (aS : PySem.W.nsIn K mainGlobals "_law_same" = some (some (.ref fS))) (lS : K.lookup fS = some ⟨ocS, odS, .func (PySem.W.fnOf "_law_same" "_law_same" (defArgs sSame) (defBody sSame) (defScope sSame) .none kVS dcS pmS anS cdS ctS), slS⟩) (hcS : PySem.W.codeIn K cdS "_law_same" = true) (kS : PySem.W.keepIn K (.ref fS) = true)
    (aE : PySem.W.nsIn K mainGlobals "_law_expr" = some (some (.ref fE))) (lE : K.lookup fE = some ⟨ocE, odE, .func (PySem.W.fnOf "_law_expr" "_law_expr" (defArgs sExpr) (defBody sExpr) (defScope sExpr) .none kVE dcE pmE anE cdE ctE), slE⟩) (hcE : PySem.W.codeIn K cdE "_law_expr" = true) (kE : PySem.W.keepIn K (.ref fE) = true)
    (aK : PySem.W.nsIn K mainGlobals "_law_key" = some (some (.ref fK))) (lK : K.lookup fK = some ⟨ocK, odK, .func (PySem.W.fnOf "_law_key" "_law_key" (defArgs sKey) (defBody sKey) (defScope sKey) .none kVK dcK pmK anK cdK ctK), slK⟩) (hcK : PySem.W.codeIn K cdK "_law_key" = true) (kK : PySem.W.keepIn K (.ref fK) = true)
    (aT : PySem.W.nsIn K mainGlobals "_law_template" = some (some (.ref fT))) (lT : K.lookup fT = some ⟨ocT, odT, .func (PySem.W.fnOf "_law_template" "_law_template" (defArgs sTemplate) (defBody sTemplate) (defScope sTemplate) .none kVT dcT pmT anT cdT ctT), slT⟩) (hcT : PySem.W.codeIn K cdT "_law_template" = true) (kT : PySem.W.keepIn K (.ref fT) = true)
    (aN : PySem.W.nsIn K mainGlobals "_law_contents" = some (some (.ref fN))) (lN : K.lookup fN = some ⟨ocN, odN, .func (PySem.W.fnOf "_law_contents" "_law_contents" (defArgs sContents) (defBody sContents) (defScope sContents) .none kVN dcN pmN anN cdN ctN), slN⟩) (hcN : PySem.W.codeIn K cdN "_law_contents" = true) (kN : PySem.W.keepIn K (.ref fN) = true)
    (aA : PySem.W.nsIn K mainGlobals "_law_actions" = some (some (.ref fA))) (lA : K.lookup fA = some ⟨ocA, odA, .func (PySem.W.fnOf "_law_actions" "_law_actions" (defArgs sActions) (defBody sActions) (defScope sActions) .none kVA dcA pmA anA cdA ctA), slA⟩) (hcA : PySem.W.codeIn K cdA "_law_actions" = true) (kA : PySem.W.keepIn K (.ref fA) = true)
    (aP : PySem.W.nsIn K mainGlobals "_law_program" = some (some (.ref fP))) (lP : K.lookup fP = some ⟨ocP, odP, .func (PySem.W.fnOf "_law_program" "_law_program" (defArgs sProgram) (defBody sProgram) (defScope sProgram) .none kVP dcP pmP anP cdP ctP), slP⟩) (hcP : PySem.W.codeIn K cdP "_law_program" = true) (kP : PySem.W.keepIn K (.ref fP) = true)
    (aB : PySem.W.nsIn K mainGlobals "_law_box" = some (some (.ref fB))) (lB : K.lookup fB = some ⟨ocB, odB, .func (PySem.W.fnOf "_law_box" "_law_box" (defArgs sBox) (defBody sBox) (defScope sBox) .none kVB dcB pmB anB cdB ctB), slB⟩) (hcB : PySem.W.codeIn K cdB "_law_box" = true) (kB : PySem.W.keepIn K (.ref fB) = true)
    (aL : PySem.W.nsIn K mainGlobals "_law_listed" = some (some (.ref fL))) (lL : K.lookup fL = some ⟨ocL, odL, .func (PySem.W.fnOf "_law_listed" "_law_listed" (defArgs sListed) (defBody sListed) (defScope sListed) .none kVL dcL pmL anL cdL ctL), slL⟩) (hcL : PySem.W.codeIn K cdL "_law_listed" = true) (kL : PySem.W.keepIn K (.ref fL) = true)
    (aJ : PySem.W.nsIn K mainGlobals "_law_part_fault" = some (some (.ref fJ))) (lJ : K.lookup fJ = some ⟨ocJ, odJ, .func (PySem.W.fnOf "_law_part_fault" "_law_part_fault" (defArgs sPartFault) (defBody sPartFault) (defScope sPartFault) .none kVJ dcJ pmJ anJ cdJ ctJ), slJ⟩) (hcJ : PySem.W.codeIn K cdJ "_law_part_fault" = true) (kJ : PySem.W.keepIn K (.ref fJ) = true)
    (aG : PySem.W.nsIn K mainGlobals "_law_fault" = some (some (.ref fG))) (lG : K.lookup fG = some ⟨ocG, odG, .func (PySem.W.fnOf "_law_fault" "_law_fault" (defArgs sFault) (defBody sFault) (defScope sFault) .none kVG dcG pmG anG cdG ctG), slG⟩) (hcG : PySem.W.codeIn K cdG "_law_fault" = true) (kG : PySem.W.keepIn K (.ref fG) = true)
    (aH : PySem.W.nsIn K mainGlobals "_law_wrapped" = some (some (.ref fH))) (lH : K.lookup fH = some ⟨ocH, odH, .func (PySem.W.fnOf "_law_wrapped" "_law_wrapped" (defArgs sWrapped) (defBody sWrapped) (defScope sWrapped) .none kVH dcH pmH anH cdH ctH), slH⟩) (hcH : PySem.W.codeIn K cdH "_law_wrapped" = true) (kH : PySem.W.keepIn K (.ref fH) = true)
    (aO : PySem.W.nsIn K mainGlobals "_law_changed" = some (some (.ref fO))) (lO : K.lookup fO = some ⟨ocO, odO, .func (PySem.W.fnOf "_law_changed" "_law_changed" (defArgs sChanged) (defBody sChanged) (defScope sChanged) .none kVO dcO pmO anO cdO ctO), slO⟩) (hcO : PySem.W.codeIn K cdO "_law_changed" = true) (kO : PySem.W.keepIn K (.ref fO) = true)
    (aw : PySem.W.nsIn K mainGlobals "law" = some (some (.ref fw))) (lw : K.lookup fw = some ⟨ocw, odw, .func (PySem.W.fnOf "law" "law" (defArgs sLaw) (defBody sLaw) (defScope sLaw) .none kVw dcw pmw anw (.ref cw) ctw), slw⟩) (hcw : PySem.W.codeIn K (.ref cw) "law" = true) (kw : PySem.W.keepIn K (.ref fw) = true)
    (lInit : K.lookup fInit = some ⟨ocInit, odInit, .func (PySem.W.fnOf "__init__" "ProgramFault.__init__" (defArgs sInit) (defBody sInit) (defScope sInit) .none kVInit dcInit pmInit anInit cdInit ctInit), slInit⟩) (hcInit : PySem.W.codeIn K cdInit "ProgramFault.__init__" = true) (kInit : PySem.W.keepIn K (.ref fInit) = true)
    (aF : PySem.W.nsIn K mainGlobals "ProgramFault" = some (some (.ref Cx)))
    (aPF : PySem.W.nsIn K mainGlobals "PageFault" = some (some (.ref Dx)))
    (iI : PySem.W.findIn K (.ref Cx) "__init__" = some (some (.ref fInit)))
    (iT : PySem.W.typeIn K (.ref fInit) = some (.type "function"))
    (cO : K.lookup Cx = some (PySem.excClassObj nmx qx Cx Nx bsx bmx true snx sbx abx colx ddx k0x k1x k2x k3x k5x "ValueError.__new__"))
    (cV : PySem.HandSPX.refsVE bmx = true)
    (sA : PySem.W.findIn K (.ref Cx) "__setattr__" = some (some (.builtin "object.__setattr__")))
    (eC : PySem.W.subIn K (.ref Cx) (.type "BaseException") = some true)
    (tC : PySem.W.typeIn K (.ref Cx) = some (.type "type"))
    (kCx : PySem.W.keepIn K (.ref Cx) = true)
    (f1 : PySem.W.findIn K (.ref Cx) "component" = some none)
    (f2 : PySem.W.findIn K (.ref Cx) "place" = some none)
    (f3 : PySem.W.findIn K (.ref Cx) "reason" = some none)
    (g1 : PySem.W.specialIn K (.ref Dx) "__getattribute__" = some (some (.builtin "type.__getattribute__")))
    (g2 : PySem.W.readsIn K Dx (.type "type") = true)
    (g3 : PySem.W.findCls K (.ref Dx) (.type "type") "__init__" = some (.val (.builtin "ValueError.__init__")))
    (x1 : PySem.W.findIn K (.ref Cx) "__getattribute__" = some (some (.builtin "BaseException.__getattribute__")))
    (x2 : PySem.W.findIn K (.ref Cx) "__getattr__" = some none)
    (x3 : PySem.W.findIn K (.ref Cx) "__class__" = some (some (.builtin "object.__class__")))
    (x4 : PySem.W.specialIn K (.builtin "object.__class__") "__get__" = some (some (.builtin "getset_descriptor.__get__")))
    (x5 : PySem.W.takesIn K (.builtin "object.__class__") = some true)
    (x6 : PySem.W.mroIn K Cx (.type "object") = some true)
    (x7 : PySem.W.hasDictIn K Cx = true)
    (s1 : PySem.W.subIn K (.ref Cx) (.ref Cx) = some true)
    (s2 : PySem.W.hasDictIn K Dx = true)
    (s3 : PySem.W.typeIn K (.ref Dx) = some (.type "type"))
    (s4 : PySem.W.subIn K (.ref Cx) (.ref Dx) = some true)
    (s5 : PySem.W.subIn K (.ref Cx) (.type "ValueError") = some true)
    (yA : PySem.W.nsIn K mainGlobals "MOST_AROUND" = some (some (.int 3 tkA)))
    (yT : PySem.W.nsIn K mainGlobals "MOST_TEMPLATES" = some (some (.int 24 tkT)))
    (dM : K.lookup cM = some ⟨ceM, ddM, .fields vsM, slM2⟩)
    (eM : vsM[11]? = some (.ref tM)) (nM : K.lookup tM = none)
    (z_len : PySem.W.nsIn K mainGlobals "len" = some none)
    (z_range : PySem.W.nsIn K mainGlobals "range" = some none)
    (z_int : PySem.W.nsIn K mainGlobals "int" = some none)
    (z_isinstance : PySem.W.nsIn K mainGlobals "isinstance" = some none)
    (z_tuple : PySem.W.nsIn K mainGlobals "tuple" = some none)
    (z_bool : PySem.W.nsIn K mainGlobals "bool" = some none)
    (z_str : PySem.W.nsIn K mainGlobals "str" = some none)
    (z_list : PySem.W.nsIn K mainGlobals "list" = some none)
    (z_max : PySem.W.nsIn K mainGlobals "max" = some none)
    (z_enumerate : PySem.W.nsIn K mainGlobals "enumerate" = some none)
    (z_repr : PySem.W.nsIn K mainGlobals "repr" = some none)
    (z_ValueError : PySem.W.nsIn K mainGlobals "ValueError" = some none) :
    LawG l w K mg fa h := by
  have e := hfa.symm.trans (PySem.W.mg_of X G aw)
  cases e
  have e' := hfm.symm.trans (PySem.W.mg_of X G aM)
  cases e'
  have FM := fun_mk (st := sTemplates) lM hcM kM
  have mM := PySem.W.mg_of X G aM
  have bM := FM.binds (ps := ["contents"]) fun _ _ _ _ _ _ us hl => match us, hl with | [_], _ => rfl
  have FW := fun_mk (st := sWalk) lW hcW kW
  have mW := PySem.W.mg_of X G aW
  have bW := FW.binds (ps := ["contents", "before", "around"]) fun _ _ _ _ _ _ us hl => match us, hl with | [_, _, _], _ => rfl
  have FI := fun_mk (st := sWithin) lI hcI kI
  have mI := PySem.W.mg_of X G aI
  have bI := FI.binds (ps := ["template"]) fun _ _ _ _ _ _ us hl => match us, hl with | [_], _ => rfl
  have FU := fun_mk (st := sComp) lU hcU kU
  have mU := PySem.W.mg_of X G aU
  have bU := FU.binds (ps := ["program", "own"]) fun _ _ _ _ _ _ us hl => match us, hl with | [_, _], _ => rfl
  have FX := fun_mk (st := sReason) lX hcX kX
  have mX := PySem.W.mg_of X G aX
  have bX := FX.binds (ps := ["program", "own", "template", "around", "earlier"]) fun _ _ _ _ _ _ us hl => match us, hl with | [_, _, _, _, _], _ => rfl
  have FY := fun_mk (st := sReasonPart) lY hcY kY
  have mY := PySem.W.mg_of X G aY
  have bY := FY.binds (ps := ["program", "own", "part", "around", "earlier"]) fun _ _ _ _ _ _ us hl => match us, hl with | [_, _, _, _, _], _ => rfl
  have FV := fun_mk (st := sParts) lV hcV kV
  have mV := PySem.W.mg_of X G aV
  have bV := FV.binds (ps := ["program"]) fun _ _ _ _ _ _ us hl => match us, hl with | [_], _ => rfl
  have FQ := fun_mk (st := sPlaced) lQ hcQ kQ
  have mQ := PySem.W.mg_of X G aQ
  have bQ := FQ.binds (ps := ["components"]) fun _ _ _ _ _ _ us hl => match us, hl with | [_], _ => rfl
  have FZ := fun_mk (st := sCheck) lZ hcZ kZ
  have mZ := PySem.W.mg_of X G aZ
  have bZ := FZ.binds (ps := ["program"]) fun _ _ _ _ _ _ us hl => match us, hl with | [_], _ => rfl
  have FC := fun_mk (st := sCell) lC hcC kC
  have mC := PySem.W.mg_of X G aC
  have bC := FC.binds (ps := ["script", "k"]) fun _ _ _ _ _ _ us hl => match us, hl with | [_, _], _ => rfl
  have FD := fun_mk (st := sDigits) lD hcD kD
  have mD := PySem.W.mg_of X G aD
  have bD := FD.binds (ps := ["script", "first", "last"]) fun _ _ _ _ _ _ us hl => match us, hl with | [_, _, _], _ => rfl
  have FR := fun_mk (st := sDraw) lR hcR kR
  have mR := PySem.W.mg_of X G aR
  have bR := FR.binds (ps := ["box", "many"]) fun _ _ _ _ _ _ us hl => match us, hl with | [_, _], _ => rfl
  have FS := fun_mk (st := sSame) lS hcS kS
  have mS := PySem.W.mg_of X G aS
  have bS := FS.binds (ps := ["actual", "expected"]) fun _ _ _ _ _ _ us hl => match us, hl with | [_, _], _ => rfl
  have FE := fun_mk (st := sExpr) lE hcE kE
  have mE := PySem.W.mg_of X G aE
  have bE := FE.binds (ps := ["box", "depth"]) fun _ _ _ _ _ _ us hl => match us, hl with | [_, _], _ => rfl
  have FK := fun_mk (st := sKey) lK hcK kK
  have mK := PySem.W.mg_of X G aK
  have bK := FK.binds (ps := ["box"]) fun _ _ _ _ _ _ us hl => match us, hl with | [_], _ => rfl
  have FT := fun_mk (st := sTemplate) lT hcT kT
  have mT := PySem.W.mg_of X G aT
  have bT := FT.binds (ps := ["box", "own", "level", "last", "free"]) fun _ _ _ _ _ _ us hl => match us, hl with | [_, _, _, _, _], _ => rfl
  have FN := fun_mk (st := sContents) lN hcN kN
  have mN := PySem.W.mg_of X G aN
  have bN := FN.binds (ps := ["box", "own", "level", "last", "free"]) fun _ _ _ _ _ _ us hl => match us, hl with | [_, _, _, _, _], _ => rfl
  have FA := fun_mk (st := sActions) lA hcA kA
  have mA := PySem.W.mg_of X G aA
  have bA := FA.binds (ps := ["box"]) fun _ _ _ _ _ _ us hl => match us, hl with | [_], _ => rfl
  have FP := fun_mk (st := sProgram) lP hcP kP
  have mP := PySem.W.mg_of X G aP
  have bP := FP.binds (ps := ["box"]) fun _ _ _ _ _ _ us hl => match us, hl with | [_], _ => rfl
  have FB := fun_mk (st := sBox) lB hcB kB
  have mB := PySem.W.mg_of X G aB
  have bB := FB.binds (ps := ["script", "first", "last"]) fun _ _ _ _ _ _ us hl => match us, hl with | [_, _, _], _ => rfl
  have FL := fun_mk (st := sListed) lL hcL kL
  have mL := PySem.W.mg_of X G aL
  have bL := FL.binds (ps := ["contents", "before", "around"]) fun _ _ _ _ _ _ us hl => match us, hl with | [_, _, _], _ => rfl
  have FJ := fun_mk (st := sPartFault) lJ hcJ kJ
  have mJ := PySem.W.mg_of X G aJ
  have bJ := FJ.binds (ps := ["program", "number", "row", "seen"]) fun _ _ _ _ _ _ us hl => match us, hl with | [_, _, _, _], _ => rfl
  have FG := fun_mk (st := sFault) lG hcG kG
  have mG := PySem.W.mg_of X G aG
  have bG := FG.binds (ps := ["program"]) fun _ _ _ _ _ _ us hl => match us, hl with | [_], _ => rfl
  have FH := fun_mk (st := sWrapped) lH hcH kH
  have mH := PySem.W.mg_of X G aH
  have bH := FH.binds (ps := ["contents", "kinds"]) fun _ _ _ _ _ _ us hl => match us, hl with | [_, _], _ => rfl
  have FO := fun_mk (st := sChanged) lO hcO kO
  have mO := PySem.W.mg_of X G aO
  have bO := FO.binds (ps := ["box", "program"]) fun _ _ _ _ _ _ us hl => match us, hl with | [_, _], _ => rfl
  have Fw := fun_mk (st := sLaw) lw hcw kw
  have mw := PySem.W.mg_of X G aw
  have bw := Fw.binds (ps := ["script"]) fun _ _ _ _ _ _ us hl => match us, hl with | [_], _ => rfl
  have m_len := PySem.W.mg_none_of X G z_len
  have m_range := PySem.W.mg_none_of X G z_range
  have m_int := PySem.W.mg_none_of X G z_int
  have m_isinstance := PySem.W.mg_none_of X G z_isinstance
  have m_tuple := PySem.W.mg_none_of X G z_tuple
  have m_bool := PySem.W.mg_none_of X G z_bool
  have m_str := PySem.W.mg_none_of X G z_str
  have m_list := PySem.W.mg_none_of X G z_list
  have m_max := PySem.W.mg_none_of X G z_max
  have m_enumerate := PySem.W.mg_none_of X G z_enumerate
  have m_repr := PySem.W.mg_none_of X G z_repr
  have m_ValueError := PySem.W.mg_none_of X G z_ValueError
  have FI' : Fun K "__init__" "ProgramFault.__init__" sInit fInit _ := ⟨⟨_, _, _, _, _, _, _, _, _, rfl, lInit, hcInit⟩, kInit⟩
  have bI' := FI'.binds (ps := ["self", "component", "place", "reason"]) fun _ _ _ _ _ _ us hl => match us, hl with | [_, _, _, _], _ => rfl
  have mF := PySem.W.mg_of X G aF
  have mPF := PySem.W.mg_of X G aPF
  have c_MA := PySem.W.mg_of X G yA
  have c_MT := PySem.W.mg_of X G yT
  have CM' : CodeAt K "templates" sTemplates _ _ cM := ⟨_, _, _, _, _, _, _, _, rfl, lM, hcM, kM⟩
  have CW' : CodeAt K "law" sLaw _ _ cw := ⟨_, _, _, _, _, _, _, _, rfl, lw, hcw, kw⟩
  obtain ⟨hT, hC⟩ := tab cM tM _ _ _ _ _ _ lM rfl rfl dM eM
  have x0 : (PySem.W.clsIn K Cx).isSome = true := by obtain ⟨cd, hc, _⟩ := PySem.W.any_some x7; rw [hc]; rfl
  have d0 : (PySem.W.clsIn K Dx).isSome = true := by obtain ⟨cd, hc, _⟩ := PySem.W.any_some s2; rw [hc]; rfl
  have TC : FaultC K Cx fInit := ⟨⟨⟨_, _, _, _, _, _, _, _, _, _, _, _, _, _, _, cO, cV⟩, sA, eC, tC, kCx⟩, iI, iT, f1, f2, f3⟩
  refine ⟨[(cM, tM)], ?_, ?_, ?_, fun s a ns base H hl tb e0 ht hS => ?_⟩
  · intro p hp; rw [List.mem_singleton.mp hp]; exact hT
  · intro p hp; rw [List.mem_singleton.mp hp]; exact nM
  · intro p hp; rw [List.mem_singleton.mp hp]; exact hC
  have TB : GxR.TabB base mg cM tM := tb _ List.mem_cons_self
  have tgH : GxR.TabG H tM := ⟨#[], ht _ List.mem_cons_self, by simp [TriplesOk]⟩
  have gC := ok_cell (P := l.prog) (w := w) (base := base) (k := 0) FC m_len
  have gD := ok_digits (k := 1) FD gC bC kC mC m_range m_int
  have gR := FnOk.weak (ok_draw (P := l.prog) (w := w) (base := base) (k := 0) FR m_len m_int) (sp' := spDrawX) fun vs H Q E h => draw_x h
  have gS := all_sameH (P := l.prog) (w := w) (base := base) FS bS kS mS m_isinstance m_tuple m_len m_range m_bool m_int m_str 16
  have gI := ok_within (P := l.prog) (w := w) (mg := mg) (base := base) (k := 0) FI
  have gW := all_walk FW bW kW mW gI bI kI mI m_enumerate 12
  have gM := ok_templates (k := 13) CM' TB gW bW kW mW m_tuple
  have gInit := ok_init (P := l.prog) (w := w) (base := base) (C := Cx) (k := 0) FI' mPF g1 g2 g3
  have gY := ok_reasonPart (P := l.prog) (w := w) (base := base) (k := 0) FY m_len
  have gX := ok_reason (k := 1) FX m_len c_MA gY bY kY mY
  have gU := ok_comp (k := 12) (tk2 := tkA) FU m_len c_MT gW bW kW mW (gX.mono (by decide)) bX kX mX TC (gInit.mono (by decide)) bI' mF
  have gQ := ok_placed (k := 14) FQ gM bM kM mM
  have gV := ok_parts (k := 14) FV m_len m_enumerate gQ bQ kQ mQ TC (gInit.mono (by decide)) bI' mF
  have gZ := ok_check (k := 16) FZ m_len m_range (gU.mono (by decide)) bU kU mU gV bV kV mV
  have gE := all_expr FE bE kE mE gR bR kR mR m_int 2
  have gK := ok_key (k := 3) FK gE bE kE mE (gR.mono (by decide)) bR kR mR
  have gN := (all_tpl FT FN gE bE kE mE gR bR kR mR gK bK kK mK bT kT mT bN kN mN m_int m_len m_range m_tuple 4).2
  have gA := ok_actions (k := 3) FA gE bE kE mE (gR.mono (by decide)) bR kR mR m_range m_tuple
  have gP := ok_program (k := 13) FP (gR.mono (by decide)) bR kR mR (gN.mono (by decide)) bN kN mN (gA.mono (by decide)) bA kA mA m_range m_tuple m_list m_len m_max
  have gB := ok_box (k := 2) FB gD bD kD mD
  have gL := all_listed (P := l.prog) (w := w) (base := base) FL bL kL mL m_range m_len 12
  have gJ := ok_partFault (P := l.prog) (w := w) (base := base) (k := 0) FJ m_len
  have gG := ok_fault (k := 12) FG m_len m_range gL bL kL mL (gJ.mono (by decide)) bJ kJ mJ
  have gH := ok_wrapped (P := l.prog) (w := w) (mg := mg) (base := base) (k := 0) FH
  have gO := ok_changed (k := 1) FO (gR.mono (by decide)) bR kR mR gH bH kH mH m_len m_range m_tuple
  have hr : Room 18 callerA := ⟨rfl, by decide, by decide⟩
  have bw' := bw s [.ref a] (e0.mod.kin.keeps fun b o z => (e0.bs b o z).1) rfl
  exact run_at (k := 17) (vs := [V.ref a]) CW' scLaw hr e0 bw' (.cons rfl .nil) rfl (run_law (k := 17) (fd := PySem.W.fnOf "law" "law" (defArgs sLaw) (defBody sLaw) (defScope sLaw) .none kVw dcw pmw anw (.ref cw) ctw) (c := cw) (s := s) (E := fun _ _ _ => False) (Q := fun v _ => v = .bl true) (hr.deeper _) rfl (gB.mono (by decide)) bB kB mB (gP.mono (by decide)) bP kP mP (gR.mono (by decide)) bR kR mR (gO.mono (by decide)) bO kO mO (gG.mono (by decide)) bG kG mG gZ bZ kZ mZ gS bS kS mS TC ⟨x0, x1, x2, eC, x3, x4, x5, x6⟩ ⟨x1, x2, eC, x7⟩ mF mPF (exm_own eC x0 tC s1) (kit_own d0 s3 s4) (kit_VE s5) m_range m_repr m_isinstance m_ValueError hS tgH fun _ => rfl)
end Pw
open PySem PySem.W PyProof.Rows
set_option maxRecDepth 100000 in
set_option maxHeartbeats 0 in
theorem PySem.Challenge.cw_pagewake_k01_the_first_fault_of_a_progra_holds : PySem.Challenge.rw_pagewake_k01_the_first_fault_of_a_progra.Holds := by
  w_on; o_law; k_head; (case hw => w_witness2)
  k_fill
  refine Pw.walk_G (l := PySem.Challenge.rw_pagewake_k01_the_first_fault_of_a_progra) (nm := "templates") rfl rfl ?R (fun w h Y => PySem.W.kIn_of Y) ?F
  case R => first | rfl | decide +kernel
  case F =>
    intro w mg fa fm h KX G hmg hmt tab
    refine' Pw.all_mk KX G hmg hmt tab ?qaM ?qlM ?qhcM ?qkM ?qaW ?qlW ?qhcW ?qkW ?qaI ?qlI ?qhcI ?qkI ?qaU ?qlU ?qhcU ?qkU ?qaX ?qlX ?qhcX ?qkX ?qaY ?qlY ?qhcY ?qkY ?qaV ?qlV ?qhcV ?qkV ?qaQ ?qlQ ?qhcQ ?qkQ ?qaZ ?qlZ ?qhcZ ?qkZ ?qaC ?qlC ?qhcC ?qkC ?qaD ?qlD ?qhcD ?qkD ?qaR ?qlR ?qhcR ?qkR ?qaS ?qlS ?qhcS ?qkS ?qaE ?qlE ?qhcE ?qkE ?qaK ?qlK ?qhcK ?qkK ?qaT ?qlT ?qhcT ?qkT ?qaN ?qlN ?qhcN ?qkN ?qaA ?qlA ?qhcA ?qkA ?qaP ?qlP ?qhcP ?qkP ?qaB ?qlB ?qhcB ?qkB ?qaL ?qlL ?qhcL ?qkL ?qaJ ?qlJ ?qhcJ ?qkJ ?qaG ?qlG ?qhcG ?qkG ?qaH ?qlH ?qhcH ?qkH ?qaO ?qlO ?qhcO ?qkO ?qaw ?qlw ?qhcw ?qkw ?qlInit ?qhcInit ?qkInit ?qaF ?qaPF ?qiI ?qiT ?qcO ?qcV ?qsA ?qeC ?qtC ?qkCx ?qf1 ?qf2 ?qf3 ?qg1 ?qg2 ?qg3 ?qx1 ?qx2 ?qx3 ?qx4 ?qx5 ?qx6 ?qx7 ?qs1 ?qs2 ?qs3 ?qs4 ?qs5 ?qyA ?qyT ?qdM ?qeM ?qnM ?qz_len ?qz_range ?qz_int ?qz_isinstance ?qz_tuple ?qz_bool ?qz_str ?qz_list ?qz_max ?qz_enumerate ?qz_repr ?qz_ValueError
    (case qaM => k_is)
    (case qlM => k_is)
    (case qhcM => k_is)
    (case qkM => k_is)
    (case qaW => k_is)
    (case qlW => k_is)
    (case qhcW => k_is)
    (case qkW => k_is)
    (case qaI => k_is)
    (case qlI => k_is)
    (case qhcI => k_is)
    (case qkI => k_is)
    (case qaU => k_is)
    (case qlU => k_is)
    (case qhcU => k_is)
    (case qkU => k_is)
    (case qaX => k_is)
    (case qlX => k_is)
    (case qhcX => k_is)
    (case qkX => k_is)
    (case qaY => k_is)
    (case qlY => k_is)
    (case qhcY => k_is)
    (case qkY => k_is)
    (case qaV => k_is)
    (case qlV => k_is)
    (case qhcV => k_is)
    (case qkV => k_is)
    (case qaQ => k_is)
    (case qlQ => k_is)
    (case qhcQ => k_is)
    (case qkQ => k_is)
    (case qaZ => k_is)
    (case qlZ => k_is)
    (case qhcZ => k_is)
    (case qkZ => k_is)
    (case qaC => k_is)
    (case qlC => k_is)
    (case qhcC => k_is)
    (case qkC => k_is)
    (case qaD => k_is)
    (case qlD => k_is)
    (case qhcD => k_is)
    (case qkD => k_is)
    (case qaR => k_is)
    (case qlR => k_is)
    (case qhcR => k_is)
    (case qkR => k_is)
    (case qaS => k_is)
    (case qlS => k_is)
    (case qhcS => k_is)
    (case qkS => k_is)
    (case qaE => k_is)
    (case qlE => k_is)
    (case qhcE => k_is)
    (case qkE => k_is)
    (case qaK => k_is)
    (case qlK => k_is)
    (case qhcK => k_is)
    (case qkK => k_is)
    (case qaT => k_is)
    (case qlT => k_is)
    (case qhcT => k_is)
    (case qkT => k_is)
    (case qaN => k_is)
    (case qlN => k_is)
    (case qhcN => k_is)
    (case qkN => k_is)
    (case qaA => k_is)
    (case qlA => k_is)
    (case qhcA => k_is)
    (case qkA => k_is)
    (case qaP => k_is)
    (case qlP => k_is)
    (case qhcP => k_is)
    (case qkP => k_is)
    (case qaB => k_is)
    (case qlB => k_is)
    (case qhcB => k_is)
    (case qkB => k_is)
    (case qaL => k_is)
    (case qlL => k_is)
    (case qhcL => k_is)
    (case qkL => k_is)
    (case qaJ => k_is)
    (case qlJ => k_is)
    (case qhcJ => k_is)
    (case qkJ => k_is)
    (case qaG => k_is)
    (case qlG => k_is)
    (case qhcG => k_is)
    (case qkG => k_is)
    (case qaH => k_is)
    (case qlH => k_is)
    (case qhcH => k_is)
    (case qkH => k_is)
    (case qaO => k_is)
    (case qlO => k_is)
    (case qhcO => k_is)
    (case qkO => k_is)
    (case qaw => k_is)
    (case qlw => k_is)
    (case qhcw => k_is)
    (case qkw => k_is)
    (case qaF => k_is)
    (case qaPF => k_is)
    (case qiI => k_is)
    (case qlInit => k_is)
    (case qhcInit => k_is)
    (case qkInit => k_is)
    (case qiT => k_is)
    (case qcO => k_is)
    (case qcV => first | rfl | decide +kernel | k_is)
    (case qsA => k_is)
    (case qeC => k_is)
    (case qtC => k_is)
    (case qkCx => k_is)
    (case qf1 => k_is)
    (case qf2 => k_is)
    (case qf3 => k_is)
    (case qg1 => k_is)
    (case qg2 => k_is)
    (case qg3 => k_is)
    (case qx1 => k_is)
    (case qx2 => k_is)
    (case qx3 => k_is)
    (case qx4 => k_is)
    (case qx5 => k_is)
    (case qx6 => k_is)
    (case qx7 => k_is)
    (case qs1 => k_is)
    (case qs2 => k_is)
    (case qs3 => k_is)
    (case qs4 => k_is)
    (case qs5 => k_is)
    (case qyA => k_is)
    (case qyT => k_is)
    (case qdM => k_is)
    (case qeM => rfl)
    (case qnM => first | kernel_rfl | rfl | decide +kernel)
    (case qz_len => k_is)
    (case qz_range => k_is)
    (case qz_int => k_is)
    (case qz_isinstance => k_is)
    (case qz_tuple => k_is)
    (case qz_bool => k_is)
    (case qz_str => k_is)
    (case qz_list => k_is)
    (case qz_max => k_is)
    (case qz_enumerate => k_is)
    (case qz_repr => k_is)
    (case qz_ValueError => k_is)
