import PyProof.Rows.All
import Wide.All
import OpenK.AllK
import Wide.FinOn
import HandS.Call
import PyProof.Rows.MatchSeqLen
import HandS.ForMost
import HandS.IsInst
import HandS.Conv
import HandS.TupAny
import KE.KeyNested
import KE.KDictKeyed
import HandS.Deep
import KE.KTup
import HandS.Rev
import HandS.DictComp
import KE.KDictCopyH
import HandS.SetFor
import HandS.Strs
import KE.KDictItemsList
import HandS.DictTup
import HandS.ListItems
import HandS.FStr
import HandS.Text
import HandS.Steps
import KE.GoesEnum
import PySem.Challenge.RW_pagewake_k30_pages_are_written
set_option Elab.async false
set_option linter.all false
set_option maxRecDepth 100000
set_option maxHeartbeats 4000000
namespace Pw
open PySem PySem.Spec PyProof.Rows L2

/-- what a pattern binds: the slot, the value -/
abbrev Bnd := List (Nat × V)
def BndOk (X : Cx) (p : Nat × V) (q : Str × Value) : Prop := X.N[p.1]? = some q.1 ∧ X.env.scope.names.lookup q.1 = some .local ∧ RelV p.2 q.2
def RelB (X : Cx) : Option Bnd → Option (List (Str × Value)) → Prop
  | none, none => True
  | some bs, some us => Paired (BndOk X) bs us
  | _, _ => False
abbrev TPat := V → Hp → (Option Bnd → Prop) → Prop
abbrev TPats := List V → Hp → (Option Bnd → Prop) → Prop
structure PPat (X : Cx) (p : Pattern) (t : TPat) : Prop where
  run : ∀ (pins : List (Addr × Obj)) (s : Shared) (σ : L2.St) (H : Hp) (v : V) (u : Value) (Q : Option Bnd → Prop), Inv X pins σ H s → RelV v u → t v H Q →
    wpAny (model X.prog X.w) X.A (matchPattern p X.env u) (fun r s' => ∃ b, Inv X pins σ H s' ∧ RelB X b r ∧ Q b) X.xe s
structure PPats (X : Cx) (ps : List Pattern) (t : TPats) : Prop where
  run : ∀ (pins : List (Addr × Obj)) (s : Shared) (σ : L2.St) (H : Hp) (vs : List V) (us : List Value) (Q : Option Bnd → Prop), Inv X pins σ H s → Vals vs us → t vs H Q →
    wpAny (model X.prog X.w) X.A (matchEach ps X.env us) (fun r s' => ∃ b, Inv X pins σ H s' ∧ RelB X b r ∧ Q b) X.xe s
theorem Paired.appendP {α β : Type} {F : α → β → Prop} : ∀ {a : List α} {b : List β} {c : List α} {d : List β}, Paired F a b → Paired F c d → Paired F (a ++ c) (b ++ d)
  | _, _, _, _, .nil, q => q
  | _, _, _, _, .cons r t, q => .cons r (Paired.appendP t q)
section
variable {X : Cx}
def tPName (i : Nat) : TPat := fun v _ Q => Q (some [(i, v)])
theorem pp_name (i : Nat) {x : Str} {pos : Pos} (hN : X.N[i]? = some x := by rfl) (hx : X.env.scope.names.lookup x = some .local := by rfl) : PPat X (.MatchAs none (some x) pos) (tPName i) := by
  refine ⟨fun pins s σ H v u Q I r h => ?_⟩
  exact wpAny_matchPattern_Capture ⟨some [(i, v)], I, (show Paired (BndOk X) [(i, v)] [(x, u)] from .cons ⟨hN, hx, r⟩ .nil), h⟩
def tPAny : TPat := fun _ _ Q => Q (some [])
theorem pp_any {pos : Pos} : PPat X (.MatchAs none none pos) tPAny := by
  refine ⟨fun pins s σ H v u Q I r h => ?_⟩
  exact wpAny_matchPattern_Capture ⟨some [], I, (show Paired (BndOk X) [] [] from .nil), h⟩
/-- a written text -/
def tPStr (x : Str) : TPat := fun v _ Q => ∃ z, v = .str z ∧ Q (if z = x then some [] else none)
theorem pp_str {x : Str} {j : Nat} {p1 pos : Pos} : PPat X (.MatchValue (.Constant (.str x) j p1) pos) (tPStr x) := by
  refine ⟨fun pins s σ H v u Q I r h => ?_⟩
  obtain ⟨z, rfl, q⟩ := h
  obtain ⟨t, rfl⟩ := r
  refine wpAny_matchPattern_Value (Calls.Constant_str (PyProof.Rows.eq_str (wpAny_truthy_bool ?_)))
  have I' := I.tok (s.toks + 1)
  by_cases e : z = x
  · subst e
    have e2 : (z == z) = true := by simp
    rw [if_pos e2]
    rw [if_pos rfl] at q
    exact ⟨some [], I', (show Paired (BndOk X) [] [] from .nil), q⟩
  · have e2 : ¬ (z == x) = true := fun h => e (by simpa using h)
    rw [if_neg e2]
    rw [if_neg e] at q
    exact ⟨none, I', trivial, q⟩
def tPNil : TPats := fun _ _ Q => Q (some [])
theorem pps_nil' : PPats X [] tPNil := ⟨fun pins s σ H vs us Q I r h => wpAny_matchEach_nil ⟨some [], I, (show Paired (BndOk X) [] [] from .nil), h⟩⟩
def tPCons (t : TPat) (u : TPats) : TPats := fun vs H Q => ∃ v r, vs = v :: r ∧ t v H fun b => match b with
  | none => Q none
  | some bs => u r H fun c => match c with
    | none => Q none
    | some cs => Q (some (bs ++ cs))
theorem pps_cons' {p : Pattern} {ps : List Pattern} {t : TPat} {u : TPats} (h1 : PPat X p t) (h2 : PPats X ps u) (hp : p.isStar = false := by rfl) : PPats X (p :: ps) (tPCons t u) := by
  refine ⟨fun pins s σ H vs us Q I r h => ?_⟩
  obtain ⟨v, w, rfl, h⟩ := h
  cases r with
  | cons r rr =>
    refine wpAny_matchEach_cons (thn (h1.run pins s σ H _ _ _ I r h) fun a s1 ⟨b, I1, rb, q⟩ => ?_) hp
    cases b with
    | none =>
      cases a with
      | none => exact ⟨none, I1, trivial, q⟩
      | some us => exact rb.elim
    | some bs =>
      cases a with
      | none => exact rb.elim
      | some us =>
        refine thn (h2.run pins s1 σ H _ _ _ I1 rr q) fun a2 s2 ⟨c, I2, rc, q2⟩ => ?_
        cases c with
        | none =>
          cases a2 with
          | none => exact ⟨none, I2, trivial, q2⟩
          | some _ => exact rc.elim
        | some cs =>
          cases a2 with
          | none => exact rc.elim
          | some ws => exact ⟨some (bs ++ cs), I2, Paired.appendP rb rc, q2⟩
/-- a sequence pattern at a tuple -/
def tPSeq (K : PySem.W.Frag) (n : Nat) (t : TPats) : TPat := fun v H Q => ∃ a xs, v = .ref a ∧ SqT K H a xs ∧ if xs.length = n then t xs H Q else Q none
theorem pp_seq {ps : List Pattern} {pos : Pos} {t : TPats} {n : Nat} (hc : X.calm = true) (h : PPats X ps t) (hn : ps.length = n := by rfl) (hstar : ps.findIdx? (·.isStar) = none := by rfl)
    (hwild : (ps.all fun p => p.isWildcard || (p.isStar && p.names.isEmpty)) = false := by rfl) : PPat X (.MatchSequence ps pos) (tPSeq X.K n t) := by
  refine ⟨fun pins s σ H v u Q I r hw => ?_⟩
  obtain ⟨a, xs, rfl, hq, hw⟩ := hw
  obtain rfl : u = Value.ref a := r
  obtain ⟨its, rv, ht, hz⟩ := I.tuple hq
  have el := rv.length
  have hfit : ((its.toArray.size : Nat) : Int) < 2 ^ 63 := by
    have hs : sizeLine ≤ 2 ^ 62 := by decide
    simp only [List.size_toArray]
    omega
  by_cases e : xs.length = n
  · rw [if_pos e] at hw
    have e2 : its.toArray.size = ps.length := by simp only [List.size_toArray]; omega
    refine matchSeq_tuple_hit ht hfit e2 ?_ hstar hwild
    rw [← e2]
    refine unpackItems_tuple (I.ok.hd hc) (by exact ht) fun h' hx => ?_
    have I1 : Inv X pins σ H { s with heap := h', toks := s.toks + 1 + 1 } := I.kept fun b o q => hx b o (Nat.ne_of_lt (Heap.lt_size q)) q
    exact h.run pins _ σ H xs _ Q I1 (by simpa using rv) hw
  · rw [if_neg e] at hw
    have e2 : its.toArray.size ≠ ps.length := by simp only [List.size_toArray]; omega
    exact matchSeq_tuple_miss ht hfit e2 ⟨none, I.tok _, trivial, hw⟩ hstar hwild
/-! ### cases -/
abbrev TCs := V → Ends → L2.St → Hp → Prop
structure PCs (X : Cx) (cs : List MatchCase) (t : TCs) : Prop where
  run : ∀ (first : Bool) (pins : List (Addr × Obj)) (s : Shared) (σ : L2.St) (H : Hp) (D : Ends) (v : V) (u : Value), Inv X pins σ H s → RelV v u → t v D σ H →
    wpAny (model X.prog X.w) X.A (matchCases cs X.env u first) (SP X pins D) X.xe s
def setAll (σ : L2.St) : Bnd → L2.St
  | [] => σ
  | p :: r => setAll (σ.set p.1 (some p.2)) r
def tCsNil : TCs := fun _ D σ H => D.nx σ H
theorem pcs_nil : PCs X [] tCsNil := ⟨fun _ pins s σ H D v u I r h => wpAny_matchCases_nil ⟨σ, H, I, h⟩⟩
def tCase (t : TPat) (tb : TS) (tr : TCs) : TCs := fun v D σ H => t v H fun b => match b with
  | none => tr v D σ H
  | some bs => tb D (setAll σ bs) H
theorem assign_bnd (hN : X.N.Nodup) : ∀ {bs : Bnd} {us : List (Str × Value)} {pins : List (Addr × Obj)} {s : Shared} {σ : L2.St} {H : Hp} {Q : Unit → Shared → Prop}, Paired (BndOk X) bs us → Inv X pins σ H s → (∀ s', Inv X pins (setAll σ bs) H s' → Q () s') →
    wpAny (model X.prog X.w) X.A (assignInOrder (us.map fun (n, _) => bindName X.env n) (us.map (·.2))) Q X.xe s
  | _, _, _, s, _, _, _, .nil, I, h => assignInOrder_nil (h s I)
  | p :: bs, q :: us, pins, s, σ, H, Q, .cons r t, I, h => by
    obtain ⟨h1, h2, h3⟩ := r
    exact assignInOrder_cons (wpAny_bindName (store_ok I hN h1 (.inl h2) h3 (fun s' I' => assign_bnd hN t I' fun s2 I2 => h s2 I2) (.inr h2)))
theorem pcs_cons {p : Pattern} {body : List Stmt} {rest : List MatchCase} {t : TPat} {tb : TS} {tr : TCs} (hN : X.N.Nodup) (hp : PPat X p t) (hb : PSs X body tb) (hr : PCs X rest tr) : PCs X (⟨p, none, body⟩ :: rest) (tCase t tb tr) := by
  refine ⟨fun first pins s σ H D v u I r h => ?_⟩
  refine wpAny_matchCases_cons (thn (hp.run pins s σ H v u _ I r h) fun a s1 ⟨b, I1, rb, q⟩ => ?_)
  cases b with
  | none =>
    cases a with
    | none => exact hr.run false pins s1 σ H D v u I1 r q
    | some _ => exact rb.elim
  | some bs =>
    cases a with
    | none => exact rb.elim
    | some us => exact assign_bnd hN rb I1 fun s2 I2 => hb.run pins s2 _ H D I2 q
def tMatch (te : TE) (tc : TCs) : TS := fun D σ H => te σ H fun x H1 => tc x D σ H1
theorem ps_match {e : Expr} {cs : List MatchCase} {pos : Pos} {te : TE} {tc : TCs} (he : PE X e te) (hc : PCs X cs tc) : PS X (.Match e cs pos) (tMatch te tc) := by
  refine ⟨fun pins s σ H D I h => ?_⟩
  exact wpAny_Match (thn (he.run pins s σ H _ I h) fun v s1 ⟨x, H1, I1, r1, q1⟩ => hc.run true pins s1 σ H1 D x v I1 r1 q1)
end
end Pw
namespace Pw
open PySem PySem.Spec PyProof.Rows L2
/-! ### heaps -/
/-- all but S is as it was; tuples never change -/
structure Oth (S : List Addr) (H H' : Hp) : Prop where
  keep : ∀ a o, a ∉ S → H a = some o → H' a = some o
  tup : ∀ a xs, H a = some (.tup xs) → H' a = some (.tup xs)
section
variable {S S' : List Addr} {H H' H2 : Hp} {p b : Addr} {o : HO} {xs : List V}
theorem Oth.refl : Oth S H H := ⟨fun _ _ _ h => h, fun _ _ h => h⟩
theorem Oth.trans (x : Oth S H H') (y : Oth S H' H2) : Oth S H H2 := ⟨fun a o n h => y.keep a o n (x.keep a o n h), fun a xs h => y.tup a xs (x.tup a xs h)⟩
theorem Oth.new (h : H p = none) : Oth S H (upd H p o) := ⟨fun a o' _ q => by rw [upd_ne (ne_of_none q h)]; exact q, fun a xs q => by rw [upd_ne (ne_of_none q h)]; exact q⟩
theorem Oth.put (hb : b ∈ S) (h : H b = some (.lst xs)) : Oth S H (upd H b o) :=
  ⟨fun a o' n q => by rw [upd_ne (fun e => n (by rw [e]; exact hb))]; exact q, fun a xs q => by rw [upd_ne (ne_of q h (by intro z; cases z))]; exact q⟩
theorem Oth.mono (x : Oth S H H') (h : ∀ a ∈ S, a ∈ S') : Oth S' H H' := ⟨fun a o n => x.keep a o fun z => n (h a z), x.tup⟩
/-- what was not there may be forgotten -/
theorem Oth.drop (x : Oth (p :: S) H H') (h : H p = none) : Oth S H H' :=
  ⟨fun a o n q => x.keep a o (fun z => (List.mem_cons.mp z).elim (fun e => by rw [e, h] at q; cases q) n) q, x.tup⟩
theorem Oth.drop2 (x : Oth (b :: p :: S) H H') (h : H p = none) : Oth (b :: S) H H' :=
  Oth.drop (p := p) (x.mono fun a z => by simp only [List.mem_cons] at z ⊢; rcases z with z | z | z <;> simp [z]) h
theorem Oth.ne (x : Oth S H H') (h : H' p = none) (hb : b ∉ S) (q : H b = some o) : b ≠ p := ne_of_none (x.keep b o hb q) h
theorem Oth.lst (x : Oth S H H') (hb : b ∉ S) (q : H b = some (.lst xs)) : H' b = some (.lst xs) := x.keep b _ hb q
theorem Oth.sqT {K : PySem.W.Frag} (x : Oth S H H') (h : H b = some (.tup xs)) : SqT K H' b xs := SqT.of (x.tup b xs h)
end
/-! ### data that never change -/
inductive T where
  | non | bl (b : Bool) | int (i : Int) | str (s : Str) | tup (ts : List T)
inductive IsT (H : Hp) : T → V → Prop
  | non : IsT H .non .non
  | bl (b : Bool) : IsT H (.bl b) (.bl b)
  | int (i : Int) : IsT H (.int i) (.int i)
  | str (s : Str) : IsT H (.str s) (.str s)
  | tup {a : Addr} {xs : List V} {ts : List T} : H a = some (.tup xs) → xs.length = ts.length → (∀ (i : Nat) (t : T) (x : V), ts[i]? = some t → xs[i]? = some x → IsT H t x) → IsT H (.tup ts) (.ref a)
section
variable {H H' : Hp} {S : List Addr} {a : Addr} {xs : List V} {ts : List T} {t : T} {v : V}
theorem IsT.oth (h : IsT H t v) (o : Oth S H H') : IsT H' t v := by
  induction h with
  | non => exact .non
  | bl b => exact .bl b
  | int i => exact .int i
  | str s => exact .str s
  | tup e l _ ih => exact .tup (o.tup _ _ e) l ih
theorem paired_of : ∀ {ts : List T} {xs : List V}, xs.length = ts.length → (∀ (i : Nat) (t : T) (x : V), ts[i]? = some t → xs[i]? = some x → IsT H t x) → Paired (IsT H) ts xs
  | [], [], _, _ => .nil
  | [], _ :: _, l, _ => by cases l
  | _ :: _, [], l, _ => by cases l
  | t :: ts, x :: xs, l, h => .cons (h 0 t x rfl rfl) (paired_of (Nat.succ.inj l) fun i t' x' e1 e2 => h (i + 1) t' x' e1 e2)
theorem paired_get : ∀ {ts : List T} {xs : List V}, Paired (IsT H) ts xs → xs.length = ts.length ∧ ∀ (i : Nat) (t : T) (x : V), ts[i]? = some t → xs[i]? = some x → IsT H t x
  | _, _, .nil => ⟨rfl, fun i t x e => by simp at e⟩
  | _, _, .cons r q => by
    obtain ⟨l, h⟩ := paired_get q
    refine ⟨congrArg (· + 1) l, fun i t x e1 e2 => ?_⟩
    cases i with
    | zero => cases e1; cases e2; exact r
    | succ i => exact h i t x e1 e2
theorem IsT.inv (h : IsT H (.tup ts) v) : ∃ a xs, v = .ref a ∧ H a = some (.tup xs) ∧ Paired (IsT H) ts xs := by
  cases h with
  | tup e l q => exact ⟨_, _, rfl, e, paired_of l q⟩
theorem IsT.mk (e : H a = some (.tup xs)) (q : Paired (IsT H) ts xs) : IsT H (.tup ts) (.ref a) := .tup e (paired_get q).1 (paired_get q).2
theorem paired_oth : ∀ {ts : List T} {xs : List V}, Paired (IsT H) ts xs → Oth S H H' → Paired (IsT H') ts xs
  | _, _, .nil, _ => .nil
  | _, _, .cons r q, o => .cons (r.oth o) (paired_oth q o)
theorem paired_app {us : List T} {ys : List V} (p : Paired (IsT H) ts xs) (q : Paired (IsT H) us ys) : Paired (IsT H) (ts ++ us) (xs ++ ys) := Paired.appendP p q
theorem paired_int : ∀ {ns : List Int} {xs : List V}, Paired (IsT H) (ns.map T.int) xs → xs = ns.map V.int
  | [], _, .nil => rfl
  | n :: ns, _, .cons r q => by
    cases r
    rw [paired_int q]
    rfl
theorem int_paired : ∀ (ns : List Int), Paired (IsT H) (ns.map T.int) (ns.map V.int)
  | [] => .nil
  | n :: ns => .cons (.int n) (int_paired ns)
theorem IsT.ints {ns : List Int} (h : IsT H (.tup (ns.map T.int)) v) : ∃ a, v = .ref a ∧ H a = some (.tup (ns.map V.int)) := by
  obtain ⟨a, xs, rfl, e, p⟩ := h.inv
  rw [paired_int p] at e
  exact ⟨a, rfl, e⟩
theorem IsT.of_int {i : Int} (h : IsT H (.int i) v) : v = .int i := by cases h; rfl
theorem IsT.of_str {s : Str} (h : IsT H (.str s) v) : v = .str s := by cases h; rfl
theorem IsT.of_non (h : IsT H .non v) : v = .non := by cases h; rfl
theorem IsT.inv1 {t1 : T} (h : IsT H (.tup [t1]) v) : ∃ a x1, v = .ref a ∧ H a = some (.tup [x1]) ∧ IsT H t1 x1 := by
  obtain ⟨a, xs, rfl, e, p⟩ := h.inv
  cases p with | cons p1 p => cases p; exact ⟨a, _, rfl, e, p1⟩
theorem IsT.inv2 {t1 t2 : T} (h : IsT H (.tup [t1, t2]) v) : ∃ a x1 x2, v = .ref a ∧ H a = some (.tup [x1, x2]) ∧ IsT H t1 x1 ∧ IsT H t2 x2 := by
  obtain ⟨a, xs, rfl, e, p⟩ := h.inv
  cases p with | cons p1 p => cases p with | cons p2 p => cases p; exact ⟨a, _, _, rfl, e, p1, p2⟩
theorem IsT.inv3 {t1 t2 t3 : T} (h : IsT H (.tup [t1, t2, t3]) v) : ∃ a x1 x2 x3, v = .ref a ∧ H a = some (.tup [x1, x2, x3]) ∧ IsT H t1 x1 ∧ IsT H t2 x2 ∧ IsT H t3 x3 := by
  obtain ⟨a, xs, rfl, e, p⟩ := h.inv
  cases p with | cons p1 p => cases p with | cons p2 p => cases p with | cons p3 p => cases p; exact ⟨a, _, _, _, rfl, e, p1, p2, p3⟩
theorem IsT.inv4 {t1 t2 t3 t4 : T} (h : IsT H (.tup [t1, t2, t3, t4]) v) : ∃ a x1 x2 x3 x4, v = .ref a ∧ H a = some (.tup [x1, x2, x3, x4]) ∧ IsT H t1 x1 ∧ IsT H t2 x2 ∧ IsT H t3 x3 ∧ IsT H t4 x4 := by
  obtain ⟨a, xs, rfl, e, p⟩ := h.inv
  cases p with | cons p1 p => cases p with | cons p2 p => cases p with | cons p3 p => cases p with | cons p4 p => cases p; exact ⟨a, _, _, _, _, rfl, e, p1, p2, p3, p4⟩
theorem IsT.inv5 {t1 t2 t3 t4 t5 : T} (h : IsT H (.tup [t1, t2, t3, t4, t5]) v) : ∃ a x1 x2 x3 x4 x5, v = .ref a ∧ H a = some (.tup [x1, x2, x3, x4, x5]) ∧ IsT H t1 x1 ∧ IsT H t2 x2 ∧ IsT H t3 x3 ∧ IsT H t4 x4 ∧ IsT H t5 x5 := by
  obtain ⟨a, xs, rfl, e, p⟩ := h.inv
  cases p with | cons p1 p => cases p with | cons p2 p => cases p with | cons p3 p => cases p with | cons p4 p => cases p with | cons p5 p => cases p; exact ⟨a, _, _, _, _, _, rfl, e, p1, p2, p3, p4, p5⟩
theorem IsT.mk1 {t1 : T} {x1 : V} (e : H a = some (.tup [x1])) (p1 : IsT H t1 x1) : IsT H (.tup [t1]) (.ref a) := .mk e (.cons p1 .nil)
theorem IsT.mk2 {t1 t2 : T} {x1 x2 : V} (e : H a = some (.tup [x1, x2])) (p1 : IsT H t1 x1) (p2 : IsT H t2 x2) : IsT H (.tup [t1, t2]) (.ref a) := .mk e (.cons p1 (.cons p2 .nil))
theorem IsT.mk3 {t1 t2 t3 : T} {x1 x2 x3 : V} (e : H a = some (.tup [x1, x2, x3])) (p1 : IsT H t1 x1) (p2 : IsT H t2 x2) (p3 : IsT H t3 x3) : IsT H (.tup [t1, t2, t3]) (.ref a) := .mk e (.cons p1 (.cons p2 (.cons p3 .nil)))
theorem IsT.mk4 {t1 t2 t3 t4 : T} {x1 x2 x3 x4 : V} (e : H a = some (.tup [x1, x2, x3, x4])) (p1 : IsT H t1 x1) (p2 : IsT H t2 x2) (p3 : IsT H t3 x3) (p4 : IsT H t4 x4) : IsT H (.tup [t1, t2, t3, t4]) (.ref a) := .mk e (.cons p1 (.cons p2 (.cons p3 (.cons p4 .nil))))
theorem IsT.mk5 {t1 t2 t3 t4 t5 : T} {x1 x2 x3 x4 x5 : V} (e : H a = some (.tup [x1, x2, x3, x4, x5])) (p1 : IsT H t1 x1) (p2 : IsT H t2 x2) (p3 : IsT H t3 x3) (p4 : IsT H t4 x4) (p5 : IsT H t5 x5) : IsT H (.tup [t1, t2, t3, t4, t5]) (.ref a) := .mk e (.cons p1 (.cons p2 (.cons p3 (.cons p4 (.cons p5 .nil)))))
end
/-! ### ways that meet behind a statement -/
section
variable {X : Cx} {st : Stmt} {rest : List Stmt} {t u : TS}
def tCut (t u : TS) : TS := fun D σ H => ∃ Mid : L2.St → Hp → Prop, t { D with nx := Mid } σ H ∧ ∀ σ' H', Mid σ' H' → u D σ' H'
theorem pss_cut (h1 : PS X st t) (h2 : PSs X rest u) : PSs X (st :: rest) (tCut t u) := by
  refine ⟨fun pins s σ H D I h => ?_⟩
  obtain ⟨Mid, h, hm⟩ := h
  refine wpAny_execs_cons (thn (h1.run pins s σ H { D with nx := Mid } I h) fun f s1 q => ?_)
  cases f with
  | next =>
    obtain ⟨σ', H', I', q⟩ := q
    exact h2.run pins s1 σ' H' D I' (hm _ _ q)
  | ret v => exact q
  | brk => exact q
  | cont => exact q
end
theorem Oth.sqL {K : PySem.W.Frag} {H H' : Hp} {S : List Addr} {a : Addr} {xs : List V} (x : Oth S H H') (n : a ∉ S) (h : SqL K H a xs) : SqL K H' a xs := by
  rcases h with (h | ⟨o, h⟩) | h
  · exact .inl (.inl (x.keep _ _ n h))
  · exact .inl (.inr ⟨o, x.keep _ _ n h⟩)
  · exact .inr h
/-! ### cases of a match -/
section
variable {K : PySem.W.Frag} {H : Hp} {a : Addr} {n : Nat} {z x : Str} {r : List V} {u : TPats} {tb : TS} {tr : TCs} {D : Ends} {σ : L2.St}
theorem case_skip (h : SqT K H a (.str z :: r)) (hz : z ≠ x) (q : tr (.ref a) D σ H) : tCase (tPSeq K n (tPCons (tPStr x) u)) tb tr (.ref a) D σ H := by
  refine ⟨a, _, rfl, h, ?_⟩
  by_cases e : (V.str z :: r).length = n
  · rw [if_pos e]
    refine ⟨_, _, rfl, z, rfl, ?_⟩
    rw [if_neg hz]
    exact q
  · rw [if_neg e]
    exact q
theorem case_len (h : SqT K H a r) (hz : r.length ≠ n) (q : tr (.ref a) D σ H) : tCase (tPSeq K n u) tb tr (.ref a) D σ H := by
  refine ⟨a, _, rfl, h, ?_⟩
  rw [if_neg hz]
  exact q
theorem case_hit (h : SqT K H a (.str x :: r)) (hl : r.length + 1 = n) (q : u r H fun c => match c with
    | none => tr (.ref a) D σ H
    | some bs => tb D (setAll σ bs) H) : tCase (tPSeq K n (tPCons (tPStr x) u)) tb tr (.ref a) D σ H := by
  refine ⟨a, _, rfl, h, ?_⟩
  rw [if_pos (show (V.str x :: r).length = n from hl)]
  refine ⟨_, _, rfl, x, rfl, ?_⟩
  rw [if_pos rfl]
  exact q
end
end Pw
namespace Pw
open PySem PySem.Spec PyProof.Rows L2
/-! ### expressions -/
inductive E where
  | num (n : Int) | cell (i : Nat) | prop (i : Nat) | store (i : Nat) | index
  | plus (a b : E) | minus (a b : E) | same (a b : E) | less (a b : E) | ite (c a b : E)
def E.toT : E → T
  | .num n => .tup [.str "num", .int n]
  | .cell i => .tup [.str "cell", .int (i : Int)]
  | .prop i => .tup [.str "prop", .int (i : Int)]
  | .store i => .tup [.str "store", .int (i : Int)]
  | .index => .tup [.str "index"]
  | .plus a b => .tup [.str "plus", a.toT, b.toT]
  | .minus a b => .tup [.str "minus", a.toT, b.toT]
  | .same a b => .tup [.str "same", a.toT, b.toT]
  | .less a b => .tup [.str "less", a.toT, b.toT]
  | .ite c a b => .tup [.str "if", c.toT, a.toT, b.toT]
def E.depth : E → Nat
  | .plus a b | .minus a b | .same a b | .less a b => max a.depth b.depth + 1
  | .ite c a b => max c.depth (max a.depth b.depth) + 1
  | _ => 0
def E.size : E → Nat
  | .plus a b | .minus a b | .same a b | .less a b => a.size + b.size
  | .ite c a b => c.size + a.size + b.size
  | _ => 1
structure Sc where
  cells : List Int
  props : List Int
  store : List Int
  index : Int
def Sc.toT (c : Sc) : T := .tup [.str "scope", .tup (c.cells.map .int), .tup (c.props.map .int), .tup (c.store.map .int), .int c.index]
def E.val (c : Sc) : E → Int
  | .num n => n
  | .cell i => c.cells.getD i 0
  | .prop i => c.props.getD i 0
  | .store i => c.store.getD i 0
  | .index => c.index
  | .plus a b => (a.val c + b.val c) % 1000
  | .minus a b => (a.val c - b.val c) % 1000
  | .same a b => if a.val c = b.val c then 1 else 0
  | .less a b => if a.val c < b.val c then 1 else 0
  | .ite q a b => if q.val c = 0 then b.val c else a.val c
def E.looks (c : Sc) : E → List Int
  | .store i => if i < c.store.length then [(i : Int)] else []
  | .plus a b | .minus a b | .same a b | .less a b => a.looks c ++ b.looks c
  | .ite q a b => q.looks c ++ if q.val c = 0 then b.looks c else a.looks c
  | _ => []
theorem E.size_pos : ∀ e : E, 1 ≤ e.size
  | .plus a b | .minus a b | .same a b | .less a b => by have := E.size_pos a; simp only [E.size]; omega
  | .ite q a b => by have := E.size_pos q; simp only [E.size]; omega
  | .num _ | .cell _ | .prop _ | .store _ | .index => by simp [E.size]
theorem E.looks_le (c : Sc) : ∀ e : E, (e.looks c).length ≤ e.size
  | .plus a b | .minus a b | .same a b | .less a b => by
    have h1 := E.looks_le c a
    have h2 := E.looks_le c b
    simp only [E.looks, E.size, List.length_append]
    omega
  | .ite q a b => by
    have h0 := E.looks_le c q
    have h1 := E.looks_le c a
    have h2 := E.looks_le c b
    simp only [E.looks, E.size, List.length_append]
    split <;> omega
  | .store i => by
    simp only [E.looks, E.size]
    split <;> simp
  | .num _ | .cell _ | .prop _ | .index => by simp [E.looks]
theorem getD_of {xs : List Int} {i : Nat} (h : i < xs.length) : (xs.map V.int)[i]? = some (.int (xs.getD i 0)) := by
  rw [List.getElem?_map, List.getElem?_eq_getElem h, List.getD_eq_getElem?_getD, List.getElem?_eq_getElem h]
  rfl
theorem getD_out {xs : List Int} {i : Nat} (h : ¬ i < xs.length) : xs.getD i 0 = 0 := by
  rw [List.getD_eq_getElem?_getD, List.getElem?_eq_none (by omega)]
  rfl
/-! ### what the defs promise -/
def spThere (K : PySem.W.Frag) : Sp := fun vs H Q _ => ∃ (a : Addr) (xs : List Int) (i : Nat), vs = [.ref a, .int (i : Int)] ∧ SqT K H a (xs.map V.int) ∧ Q (.bl (decide (i < xs.length))) H
def spItem (K : PySem.W.Frag) : Sp := fun vs H Q _ => ∃ (a : Addr) (xs : List Int) (i : Nat), vs = [.ref a, .int (i : Int)] ∧ SqT K H a (xs.map V.int) ∧ Q (.int (xs.getD i 0)) H
def spValue (n : Nat) : Sp := fun vs H Q _ => ∃ (e : E) (c : Sc) (ve vc : V) (l : Addr) (L : List V), vs = [ve, vc, .ref l] ∧ IsT H e.toT ve ∧ IsT H c.toT vc ∧ H l = some (.lst L) ∧ e.depth < n ∧ L.length + e.size ≤ 100000 ∧
  ∀ H', H' l = some (.lst (L ++ (e.looks c).map V.int)) → Oth [l] H H' → Q (.int (e.val c)) H'
end Pw
namespace Pw
open PySem PySem.Spec PyProof.Rows L2
theorem bo_int : bootBuiltins "int" = some (.type "int") := by decide +kernel
theorem bo_isi : bootBuiltins "isinstance" = some (.builtin "isinstance") := by decide +kernel
theorem bo_tuple : bootBuiltins "tuple" = some (.type "tuple") := by decide +kernel
theorem bo_bool : bootBuiltins "bool" = some (.type "bool") := by decide +kernel
theorem bo_str : bootBuiltins "str" = some (.type "str") := by decide +kernel
/-! ### what the law's own helpers promise -/
def spCell' (K : PySem.W.Frag) : Sp := fun vs H Q _ => ∃ (a : Addr) (ns : List Int) (j : Nat), vs = [.ref a, .int (j : Int)] ∧ SqL K H a (ns.map V.int) ∧ ∀ x : Int, Q (.int x) H
def spDigits (K : PySem.W.Frag) : Sp := fun vs H Q _ => ∃ (a : Addr) (ns : List Int) (i j : Nat), vs = [.ref a, .int (i : Int), .int (j : Int)] ∧ SqL K H a (ns.map V.int) ∧ i ≤ 100 ∧ j ≤ 100 ∧
  ∀ (p : Addr) (H' : Hp) (ds : List Int), H p = none → Oth [] H H' → H' p = some (.lst (ds.map V.int)) → Q (.ref p) H'
/-- the law's box: its digits, how many are drawn, what else stands in it -/
def Box (H : Hp) (b d : Addr) (rest : List V) : Prop := ∃ (ds : List Int) (at' : Nat), H b = some (.lst (.ref d :: .int (at' : Int) :: rest)) ∧ H d = some (.lst (ds.map V.int))
def spDraw : Sp := fun vs H Q _ => ∃ (b d : Addr) (m : Int) (rest : List V), vs = [.ref b, .int m] ∧ 0 < m ∧ Box H b d rest ∧
  ∀ (r : Int) (H' : Hp), 0 ≤ r → r < m → Box H' b d rest → Oth [b] H H' → Q (.int r) H'
theorem Box.new {H : Hp} {b d p : Addr} {rest : List V} {o : HO} (h : Box H b d rest) (n : H p = none) : Box (upd H p o) b d rest := by
  obtain ⟨ds, at', h1, h2⟩ := h
  exact ⟨ds, at', by rw [upd_ne (ne_of_none h1 n)]; exact h1, by rw [upd_ne (ne_of_none h2 n)]; exact h2⟩
theorem Box.put {H : Hp} {b d p : Addr} {rest : List V} {o : HO} (h : Box H b d rest) (nb : b ≠ p) (nd : d ≠ p) : Box (upd H p o) b d rest := by
  obtain ⟨ds, at', h1, h2⟩ := h
  exact ⟨ds, at', by rw [upd_ne nb]; exact h1, by rw [upd_ne nd]; exact h2⟩
theorem Box.is {H : Hp} {b d : Addr} {rest : List V} (h : Box H b d rest) : ∃ xs, H b = some (.lst xs) := by
  obtain ⟨ds, at', h1, h2⟩ := h
  exact ⟨_, h1⟩
theorem Box.nb {H : Hp} {b d p : Addr} {rest : List V} (h : Box H b d rest) (n : H p = none) : b ≠ p := by
  obtain ⟨ds, at', h1, h2⟩ := h
  exact ne_of_none h1 n
theorem Box.nd {H : Hp} {b d p : Addr} {rest : List V} (h : Box H b d rest) (n : H p = none) : d ≠ p := by
  obtain ⟨ds, at', h1, h2⟩ := h
  exact ne_of_none h2 n
theorem Box.oth {S : List Addr} {H H' : Hp} {b d : Addr} {rest : List V} (h : Box H b d rest) (o : Oth S H H') (nb : b ∉ S) (nd : d ∉ S) : Box H' b d rest := by
  obtain ⟨ds, at', h1, h2⟩ := h
  exact ⟨ds, at', o.keep _ _ nb h1, o.keep _ _ nd h2⟩
end Pw
namespace Pw
open PySem PySem.Spec PyProof.Rows L2
/-- data of at most so many levels, no row over 100,000 -/
inductive Dep : Nat → T → Prop
  | non (n : Nat) : Dep (n + 1) .non
  | int (n : Nat) (i : Int) : Dep (n + 1) (.int i)
  | str (n : Nat) (s : Str) : Dep (n + 1) (.str s)
  | tup (n : Nat) (ts : List T) : ts.length ≤ 100000 → (∀ t ∈ ts, Dep n t) → Dep (n + 1) (.tup ts)
def T.ty : T → String
  | .non => "NoneType" | .bl _ => "bool" | .int _ => "int" | .str _ => "str" | .tup _ => "tuple"
theorem IsT.ty {K : PySem.W.Frag} {H : Hp} {t : T} {v : V} (h : IsT H t v) : TyX K H v (.type t.ty) := by
  cases h with
  | non => exact .base .non
  | bl b => exact .base (.bl b)
  | int i => exact .base (.int i)
  | str s => exact .base (.str s)
  | tup e _ _ => exact .base (.tup e)
def spSame (n : Nat) : Sp := fun vs H Q _ => ∃ (t : T) (v u : V), vs = [v, u] ∧ IsT H t v ∧ IsT H t u ∧ Dep n t ∧ Q (.bl true) H
theorem Dep.mono {n m : Nat} {t : T} (h : Dep n t) (l : n ≤ m) : Dep m t := by
  induction h generalizing m with
  | non n => cases m with | zero => omega | succ m => exact .non m
  | int n i => cases m with | zero => omega | succ m => exact .int m i
  | str n s => cases m with | zero => omega | succ m => exact .str m s
  | tup n ts z _ ih => cases m with | zero => omega | succ m => exact .tup m ts z fun t ht => ih t ht (by omega)
theorem kb_NoneType_tuple : kitB "NoneType" "tuple" = some false := by decide +kernel
theorem kb_int_tuple : kitB "int" "tuple" = some false := by decide +kernel
theorem kb_int_bool : kitB "int" "bool" = some false := by decide +kernel
theorem kb_int_int : kitB "int" "int" = some true := by decide +kernel
theorem kb_str_tuple : kitB "str" "tuple" = some false := by decide +kernel
theorem kb_str_bool : kitB "str" "bool" = some false := by decide +kernel
theorem kb_str_int : kitB "str" "int" = some false := by decide +kernel
theorem kb_str_str : kitB "str" "str" = some true := by decide +kernel
theorem kb_tuple_tuple : kitB "tuple" "tuple" = some true := by decide +kernel
end Pw
namespace Pw
open PySem PySem.Spec PyProof.Rows L2
/-! ### templates -/
inductive Tp where
  | text (s : Str) | «show» (e : E)
  | box (tag : Str) (key : Option E) (action : Option Nat) (cs : List Tp)
  | when (e : E) (cs os : List Tp)
  | each (e : E) (cs : List Tp)
  | child (c : Nat) (key : Option E) (props : List E)
  | part (k : Nat) | input (tag : Str) (cell : Nat)
def keyT : Option E → T
  | none => .non
  | some e => e.toT
def actT : Option Nat → T
  | none => .non
  | some n => .int (n : Int)
mutual
def Tp.toT : Tp → T
  | .text s => .tup [.str "text", .str s]
  | .show e => .tup [.str "show", e.toT]
  | .box tag key action cs => .tup [.str "box", .str tag, keyT key, actT action, .tup (Tp.toTs cs)]
  | .when e cs os => .tup [.str "when", e.toT, .tup (Tp.toTs cs), .tup (Tp.toTs os)]
  | .each e cs => .tup [.str "each", e.toT, .tup (Tp.toTs cs)]
  | .child c key props => .tup [.str "child", .int (c : Int), keyT key, .tup (props.map E.toT)]
  | .part k => .tup [.str "part", .int (k : Int)]
  | .input tag cell => .tup [.str "input", .str tag, .int (cell : Int)]
def Tp.toTs : List Tp → List T
  | [] => []
  | t :: ts => t.toT :: Tp.toTs ts
end
mutual
def Tp.dep : Tp → Nat
  | .box _ _ _ cs | .each _ cs => Tp.deps cs + 1
  | .when _ cs os => max (Tp.deps cs) (Tp.deps os) + 1
  | _ => 0
def Tp.deps : List Tp → Nat
  | [] => 0
  | t :: ts => max t.dep (Tp.deps ts)
end
mutual
def Tp.cnt : Tp → Nat
  | .box _ _ _ cs | .each _ cs => Tp.cnts cs + 1
  | .when _ cs os => Tp.cnts cs + Tp.cnts os + 1
  | _ => 1
def Tp.cnts : List Tp → Nat
  | [] => 0
  | t :: ts => t.cnt + Tp.cnts ts
end
mutual
/-- the expressions are no deeper than 3, the props few -/
def Tp.Fine : Tp → Prop
  | .text _ | .part _ | .input _ _ => True
  | .show e => e.depth ≤ 3
  | .box _ key _ cs => (∀ e ∈ key, e.depth ≤ 3) ∧ Tp.Fines cs
  | .when e cs os => e.depth ≤ 3 ∧ Tp.Fines cs ∧ Tp.Fines os
  | .each e cs => e.depth ≤ 3 ∧ Tp.Fines cs
  | .child _ key props => (∀ e ∈ key, e.depth ≤ 3) ∧ props.length ≤ 10 ∧ ∀ e ∈ props, e.depth ≤ 3
def Tp.Fines : List Tp → Prop
  | [] => True
  | t :: ts => t.Fine ∧ Tp.Fines ts
end
/-- a template with its place and the kinds around it -/
structure Rw where
  place : List Int
  tp : Tp
  ar : List Str
mutual
def Tp.under (pl : List Int) (ar : List Str) : Tp → List Rw
  | .box _ _ _ cs => Tp.lst pl 0 (ar ++ [("box" : Str)]) cs
  | .each _ cs => Tp.lst pl 0 (ar ++ [("each" : Str)]) cs
  | .when _ cs os => Tp.lst (pl ++ [0]) 0 (ar ++ [("when" : Str)]) cs ++ Tp.lst (pl ++ [1]) 0 (ar ++ [("when" : Str)]) os
  | _ => []
def Tp.lst (pl : List Int) (k : Nat) (ar : List Str) : List Tp → List Rw
  | [] => []
  | t :: ts => ⟨pl ++ [(k : Int)], t, ar⟩ :: (t.under (pl ++ [(k : Int)]) ar ++ Tp.lst pl (k + 1) ar ts)
end
mutual
theorem Tp.under_len : ∀ (t : Tp) (pl : List Int) (ar : List Str), (t.under pl ar).length + 1 = t.cnt
  | .box _ _ _ cs, pl, ar => by simp only [Tp.under, Tp.cnt]; rw [Tp.lst_len cs]
  | .each _ cs, pl, ar => by simp only [Tp.under, Tp.cnt]; rw [Tp.lst_len cs]
  | .when _ cs os, pl, ar => by simp only [Tp.under, Tp.cnt, List.length_append]; rw [Tp.lst_len cs, Tp.lst_len os]
  | .text _, pl, ar | .show _, pl, ar | .child _ _ _, pl, ar | .part _, pl, ar | .input _ _, pl, ar => by simp [Tp.under, Tp.cnt]
theorem Tp.lst_len : ∀ (ts : List Tp) (pl : List Int) (k : Nat) (ar : List Str), (Tp.lst pl k ar ts).length = Tp.cnts ts
  | [], pl, k, ar => rfl
  | t :: ts, pl, k, ar => by
    have h := Tp.under_len t (pl ++ [(k : Int)]) ar
    simp only [Tp.lst, Tp.cnts, List.length_cons, List.length_append]
    rw [Tp.lst_len ts]
    omega
end
theorem Tp.toTs_map : ∀ ts : List Tp, Tp.toTs ts = ts.map Tp.toT
  | [] => rfl
  | t :: ts => by rw [Tp.toTs, Tp.toTs_map ts]; rfl
theorem Tp.cnt_pos (t : Tp) : 1 ≤ t.cnt := by cases t <;> simp [Tp.cnt]
theorem Tp.cnts_len : ∀ ts : List Tp, ts.length ≤ Tp.cnts ts
  | [] => Nat.le_refl _
  | t :: ts => by
    have := Tp.cnt_pos t
    have := Tp.cnts_len ts
    simp only [List.length_cons, Tp.cnts]
    omega
theorem Tp.lst_app : ∀ (ts us : List Tp) (pl : List Int) (k : Nat) (ar : List Str), Tp.lst pl k ar (ts ++ us) = Tp.lst pl k ar ts ++ Tp.lst pl (k + ts.length) ar us
  | [], us, pl, k, ar => rfl
  | t :: ts, us, pl, k, ar => by
    simp only [List.cons_append, Tp.lst, Tp.lst_app ts us, List.append_assoc, List.length_cons]
    rw [show k + 1 + ts.length = k + (ts.length + 1) by omega]
/-! ### how deep the data are -/
theorem E.dep : ∀ e : E, Dep (e.depth + 2) e.toT
  | .num n => .tup _ _ (by simp) (by simp; exact ⟨.str _ _, .int _ _⟩)
  | .cell i => .tup _ _ (by simp) (by simp; exact ⟨.str _ _, .int _ _⟩)
  | .prop i => .tup _ _ (by simp) (by simp; exact ⟨.str _ _, .int _ _⟩)
  | .store i => .tup _ _ (by simp) (by simp; exact ⟨.str _ _, .int _ _⟩)
  | .index => .tup _ _ (by simp) (by simp; exact .str _ _)
  | .plus a b => .tup _ _ (by simp) (by simp; exact ⟨.str _ _, (E.dep a).mono (by simp only [E.depth]; omega), (E.dep b).mono (by simp only [E.depth]; omega)⟩)
  | .minus a b => .tup _ _ (by simp) (by simp; exact ⟨.str _ _, (E.dep a).mono (by simp only [E.depth]; omega), (E.dep b).mono (by simp only [E.depth]; omega)⟩)
  | .same a b => .tup _ _ (by simp) (by simp; exact ⟨.str _ _, (E.dep a).mono (by simp only [E.depth]; omega), (E.dep b).mono (by simp only [E.depth]; omega)⟩)
  | .less a b => .tup _ _ (by simp) (by simp; exact ⟨.str _ _, (E.dep a).mono (by simp only [E.depth]; omega), (E.dep b).mono (by simp only [E.depth]; omega)⟩)
  | .ite c a b => .tup _ _ (by simp) (by simp; exact ⟨.str _ _, (E.dep c).mono (by simp only [E.depth]; omega), (E.dep a).mono (by simp only [E.depth]; omega), (E.dep b).mono (by simp only [E.depth]; omega)⟩)
theorem E.dep5 {e : E} (h : e.depth ≤ 3) (n : Nat) : Dep (5 + n) e.toT := (E.dep e).mono (by omega)
theorem key_dep {k : Option E} (h : ∀ e ∈ k, e.depth ≤ 3) (n : Nat) : Dep (5 + n) (keyT k) := by
  cases k with
  | none => rw [Nat.add_comm]; exact .non _
  | some e => exact E.dep5 (h e rfl) n
theorem act_dep (k : Option Nat) (n : Nat) : Dep (5 + n) (actT k) := by
  rw [Nat.add_comm]
  cases k with
  | none => exact .non _
  | some e => exact .int _ _
mutual
theorem Tp.dep_ok : ∀ t : Tp, t.Fine → t.cnt ≤ 5000 → Dep (6 + 2 * t.dep + 1) t.toT
  | .text s, h, hc => .tup _ _ (by simp) (by simp; exact ⟨.str _ _, .str _ _⟩)
  | .show e, h, hc => .tup _ _ (by simp) (by simp; exact ⟨.str _ _, (E.dep5 h 1).mono (by omega)⟩)
  | .box tag key a cs, h, hc => by
    simp only [Tp.cnt] at hc
    have q := Tp.deps_ok cs h.2 (by omega)
    refine .tup _ _ (by simp) ?_
    simp only [List.mem_cons, List.not_mem_nil, or_false, forall_eq_or_imp, forall_eq, Tp.dep]
    exact ⟨.str _ _, .str _ _, (key_dep h.1 0).mono (by omega), (act_dep a 0).mono (by omega), q.mono (by omega)⟩
  | .when e cs os, h, hc => by
    simp only [Tp.cnt] at hc
    have q1 := Tp.deps_ok cs h.2.1 (by omega)
    have q2 := Tp.deps_ok os h.2.2 (by omega)
    refine .tup _ _ (by simp) ?_
    simp only [List.mem_cons, List.not_mem_nil, or_false, forall_eq_or_imp, forall_eq, Tp.dep]
    exact ⟨.str _ _, (E.dep5 h.1 0).mono (by omega), q1.mono (by omega), q2.mono (by omega)⟩
  | .each e cs, h, hc => by
    simp only [Tp.cnt] at hc
    have q := Tp.deps_ok cs h.2 (by omega)
    refine .tup _ _ (by simp) ?_
    simp only [List.mem_cons, List.not_mem_nil, or_false, forall_eq_or_imp, forall_eq, Tp.dep]
    exact ⟨.str _ _, (E.dep5 h.1 0).mono (by omega), q.mono (by omega)⟩
  | .child c key props, h, hc => by
    refine .tup _ _ (by simp) ?_
    simp only [List.mem_cons, List.not_mem_nil, or_false, forall_eq_or_imp, forall_eq]
    refine ⟨.str _ _, .int _ _, (key_dep h.1 1).mono (by omega), .tup 5 _ (by rw [List.length_map]; have := h.2.1; omega) fun t ht => ?_⟩
    obtain ⟨e, he, rfl⟩ := List.mem_map.mp ht
    exact E.dep5 (h.2.2 e he) 0
  | .part k, h, hc => .tup _ _ (by simp) (by simp; exact ⟨.str _ _, .int _ _⟩)
  | .input tag c, h, hc => .tup _ _ (by simp) (by simp; exact ⟨.str _ _, .str _ _, .int _ _⟩)
theorem Tp.deps_ok : ∀ ts : List Tp, Tp.Fines ts → Tp.cnts ts ≤ 5000 → Dep (6 + 2 * Tp.deps ts + 2) (.tup (Tp.toTs ts))
  | [], h, hc => .tup _ _ (by simp [Tp.toTs]) (by simp [Tp.toTs])
  | t :: ts, h, hc => by
    have z := Tp.cnts_len ts
    simp only [Tp.cnts] at hc
    have q1 := Tp.dep_ok t h.1 (by omega)
    have q2 := Tp.deps_ok ts h.2 (by omega)
    cases q2 with
    | tup _ _ l q2 =>
      refine .tup _ _ (by simp only [Tp.toTs, List.length_cons, Tp.toTs_map, List.length_map]; omega) ?_
      simp only [Tp.toTs, List.mem_cons, Tp.deps]
      rintro u (rfl | hu)
      · exact q1.mono (by omega)
      · exact (q2 u hu).mono (by omega)
end
/-! ### tuples added -/
theorem cat_t {K : PySem.W.Frag} {H : Hp} {a b : Addr} {xs ys : List V} {Q : VK} (ha : H a = some (.tup xs)) (hb : H b = some (.tup ys)) (hz : xs.length + ys.length ≤ 100000)
    (q : ∀ (c : Addr) (H' : Hp), Oth [] H H' → H' c = some (.tup (xs ++ ys)) → Q (.ref c) H') : rCatA K (.ref a) (.ref b) H Q := by
  refine ⟨a, b, xs, ys, rfl, rfl, SqT.of ha, SqT.of hb, Nat.le_trans hz (by decide), fun e => ?_, fun _ e => ?_, fun _ _ p hp => ?_⟩
  · exact q b H Oth.refl (by rw [e]; exact hb)
  · exact q a H Oth.refl (by rw [e, List.append_nil]; exact ha)
  · exact q p _ (Oth.new hp) upd_same
end Pw
namespace Pw
open PySem PySem.Spec PyProof.Rows L2
def spWide (n : Nat) : Sp := fun vs H Q _ => ∃ (b dg : Addr) (d : Nat), vs = [.ref b, .int (d : Int)] ∧ d < n ∧ Box H b dg [] ∧
  ∀ (e : E) (v : V) (H' : Hp), e.depth ≤ d → e.size ≤ 3 ^ d → IsT H' e.toT v → Box H' b dg [] → Oth [b] H H' → Q v H'
/-- _law_value: the scope is a list -/
def spLawValue (n : Nat) : Sp := fun vs H Q _ => ∃ (e : E) (c : Sc) (ve : V) (s ac ap as l : Addr) (L : List V), vs = [ve, .ref s, .ref l] ∧ IsT H e.toT ve ∧ H s = some (.lst [.ref ac, .ref ap, .ref as, .int c.index]) ∧
  H ac = some (.tup (c.cells.map V.int)) ∧ H ap = some (.tup (c.props.map V.int)) ∧ H as = some (.tup (c.store.map V.int)) ∧ s ≠ l ∧ H l = some (.lst L) ∧ e.depth < n ∧ L.length + e.size ≤ 100000 ∧
  ∀ H', H' l = some (.lst (L ++ (e.looks c).map V.int)) → Oth [l] H H' → Q (.int (e.val c)) H'
theorem at0 {x : V} {xs : List V} : atI (x :: xs) 0 = some x := atI_nat (j := 0) rfl
theorem at1 {x y : V} {xs : List V} : atI (x :: y :: xs) 1 = some y := atI_nat (j := 1) rfl
theorem at2 {x y z : V} {xs : List V} : atI (x :: y :: z :: xs) 2 = some z := atI_nat (j := 2) rfl
theorem at3 {x y z a : V} {xs : List V} : atI (x :: y :: z :: a :: xs) 3 = some a := atI_nat (j := 3) rfl
theorem at4 {x y z a b : V} {xs : List V} : atI (x :: y :: z :: a :: b :: xs) 4 = some b := atI_nat (j := 4) rfl
theorem at5 {x y z a b c : V} {xs : List V} : atI (x :: y :: z :: a :: b :: c :: xs) 5 = some c := atI_nat (j := 5) rfl
theorem sz {n : Nat} (h : n ≤ 1000 := by exact Nat.le_of_ble_eq_true rfl) : n ≤ sizeLine := Nat.le_of_lt (small1000 h)
theorem iteTd {p A B : Prop} [Decidable p] (hp : p) (h : A) : if decide p = true then A else B := by rw [decide_eq_true hp]; exact iteT h
theorem iteFd {p A B : Prop} [Decidable p] (hp : ¬ p) (h : B) : if decide p = true then A else B := by rw [decide_eq_false hp]; exact iteF h
theorem iteTb {b : Bool} {A B : Prop} (hb : b = true) (h : A) : if b = true then A else B := by rw [hb]; exact iteT h
theorem iteFb {b : Bool} {A B : Prop} (hb : b = false) (h : B) : if b = true then A else B := by rw [hb]; exact iteF h
theorem lt1 {x y w : V} {r : List V} (h : eqV x w = false) : ∀ (m : Nat) (z' : V), m < 1 → (x :: y :: r)[m]? = some z' → eqV z' w = false := fun m z' hm e => by
  obtain rfl : m = 0 := by omega
  cases e
  exact h
theorem lt2 {x y z w : V} {r : List V} (h : eqV x w = false) (h2 : eqV y w = false) : ∀ (m : Nat) (z' : V), m < 2 → (x :: y :: z :: r)[m]? = some z' → eqV z' w = false := fun m z' hm e => by
  rcases (by omega : m = 0 ∨ m = 1) with rfl | rfl
  · cases e; exact h
  · cases e; exact h2
end Pw
namespace Pw
open PySem PySem.Spec PyProof.Rows L2
def natV (n : Nat) : V := .int (n : Int)
/-- what the law's box says of what is left: templates, repeats, parts -/
structure Bt where
  n2 : Int
  n4 : Int
  ps : List Nat
structure By (H : Hp) (b d pl : Addr) (z : Bt) : Prop where
  box : ∃ n3 : Int, Box H b d [.int z.n2, .int n3, .int z.n4, .ref pl]
  parts : H pl = some (.lst (z.ps.map natV))
  nd : pl ≠ d
section
variable {H H' : Hp} {b d pl p : Addr} {S : List Addr} {o : HO} {z : Bt}
theorem By.get (h : By H b d pl z) : ∃ (at' : Nat) (n3 : Int), H b = some (.lst [.ref d, .int (at' : Int), .int z.n2, .int n3, .int z.n4, .ref pl]) := by
  obtain ⟨⟨n3, ds, at', h1, h2⟩, _, _⟩ := h
  exact ⟨at', n3, h1⟩
theorem By.dig (h : By H b d pl z) : ∃ ds : List Int, H d = some (.lst (ds.map V.int)) := by
  obtain ⟨⟨n3, ds, at', h1, h2⟩, _, _⟩ := h
  exact ⟨ds, h2⟩
theorem By.ndb (h : By H b d pl z) : d ≠ b := by
  intro e
  obtain ⟨at', n3, h1⟩ := h.get
  obtain ⟨ds, h2⟩ := h.dig
  rw [e, h1] at h2
  cases ds with
  | nil => cases h2
  | cons x r => cases h2
theorem By.npb (h : By H b d pl z) : pl ≠ b := by
  intro e
  obtain ⟨at', n3, h1⟩ := h.get
  have h2 := h.parts
  rw [e, h1] at h2
  cases hz : z.ps with
  | nil => rw [hz] at h2; cases h2
  | cons x r => rw [hz] at h2; cases h2
theorem By.put (h : By H b d pl z) (at' : Nat) (n2 n3 n4 : Int) : By (upd H b (.lst [.ref d, .int (at' : Int), .int n2, .int n3, .int n4, .ref pl])) b d pl ⟨n2, n4, z.ps⟩ := by
  obtain ⟨ds, h2⟩ := h.dig
  exact ⟨⟨n3, ds, at', upd_same, by rw [upd_ne h.ndb]; exact h2⟩, by rw [upd_ne h.npb]; exact h.parts, h.nd⟩
theorem By.oth (h : By H b d pl z) (o : Oth S H H') (nb : b ∉ S) (nd : d ∉ S) (np : pl ∉ S) : By H' b d pl z := by
  obtain ⟨n3, hb⟩ := h.box
  exact ⟨⟨n3, hb.oth o nb nd⟩, o.keep _ _ np h.parts, h.nd⟩
theorem By.new (h : By H b d pl z) (n : H p = none) : By (upd H p o) b d pl z := h.oth (S := []) (Oth.new n) (by simp) (by simp) (by simp)
theorem By.is (h : By H b d pl z) : ∃ xs, H b = some (.lst xs) := let ⟨_, _, e⟩ := h.get; ⟨_, e⟩
theorem By.nb (h : By H b d pl z) (n : H p = none) : b ≠ p := let ⟨_, _, e⟩ := h.get; ne_of_none e n
theorem By.ndn (h : By H b d pl z) (n : H p = none) : d ≠ p := let ⟨_, e⟩ := h.dig; ne_of_none e n
theorem By.npn (h : By H b d pl z) (n : H p = none) : pl ≠ p := ne_of_none h.parts n
theorem By.swap {q : Addr} (h : By H b d pl z) (hq : H q = none) (ps : List Nat) (at' : Nat) (n2 n3 n4 : Int) :
    By (upd (upd H q (.lst (ps.map natV))) b (.lst [.ref d, .int (at' : Int), .int n2, .int n3, .int n4, .ref q])) b d q ⟨n2, n4, ps⟩ := by
  obtain ⟨ds, h2⟩ := h.dig
  exact ⟨⟨n3, ds, at', upd_same, by rw [upd_ne h.ndb, upd_ne (h.ndn hq)]; exact h2⟩, by rw [upd_ne (h.nb hq).symm]; exact upd_same, (h.ndn hq).symm⟩
theorem By.fresh (h : By H' b d pl z) (o : Oth [b] H H') (hp : H' p = none) : H p = none := by
  cases e : H p with
  | none => rfl
  | some x =>
    obtain ⟨xs, hb⟩ := h.is
    by_cases z : p = b
    · rw [z, hb] at hp; cases hp
    · rw [o.keep p _ (by simp [z]) e] at hp; cases hp
theorem By.lit {H1 : Hp} {l : Addr} {xs : List V} (h : By H b d pl z) (hl : H l = none) (o : Oth [b] (upd H l (.lst xs)) H1) : H1 l = some (.lst xs) := o.keep l _ (by simp [(h.nb hl).symm]) upd_same
end
theorem bo_max : bootBuiltins "max" = some (.builtin "max") := by decide +kernel
theorem rgV_nat (n : Nat) : rgV 0 (n : Int) = (List.range n).map natV := by
  unfold rgV
  rw [Int.sub_zero, Int.toNat_natCast]
  exact List.map_congr_left fun i _ => by rw [Int.zero_add]; rfl
theorem natV_toNat {r : Int} (h : 0 ≤ r) : V.int r = natV r.toNat := by
  show V.int r = V.int ((r.toNat : Nat) : Int)
  rw [Int.toNat_of_nonneg h]
theorem FnOk.weak {P : Program} {w : World} {K : PySem.W.Frag} {mg : Str → Option Value} {base : Heap} {CX : CXT} {k : Nat} {f : Addr} {fd : FuncData} {ps : List Str} {sp sp' : Sp} (o : FnOk P w K mg base CX k f fd ps sp) (h : ∀ vs H Q E, sp' vs H Q E → sp vs H Q E) : FnOk P w K mg base CX k f fd ps sp' :=
  ⟨fun vs H Q E q => o.len _ _ _ _ (h _ _ _ _ q), fun A outer s H args us vs Q E hr e0 hb r q => o.run A outer s H args us vs Q E hr e0 hb r (h _ _ _ _ q)⟩
def spDrawY : Sp := fun vs H Q _ => ∃ (z : Bt) (b d pl : Addr) (m : Int), vs = [.ref b, .int m] ∧ 0 < m ∧ By H b d pl z ∧
  ∀ (r : Int) (H' : Hp), 0 ≤ r → r < m → By H' b d pl z → Oth [b] H H' → Q (.int r) H'
theorem draw_y {vs : List V} {H : Hp} {Q : VK} {E : XK} (h : spDrawY vs H Q E) : spDraw vs H Q E := by
  obtain ⟨z, b, d, pl, m, rfl, hm, h, q⟩ := h
  obtain ⟨n3, hb⟩ := h.box
  exact ⟨b, d, m, _, rfl, hm, hb, fun r H' l u hb' o => q r H' l u ⟨⟨n3, hb'⟩, o.keep _ _ (by simp [h.npb]) h.parts, h.nd⟩ o⟩
theorem at_mem : ∀ {xs : List V} {r : Int}, 0 ≤ r → r < (xs.length : Int) → ∃ v ∈ xs, atI xs r = some v := by
  intro xs r h0 h1
  obtain ⟨j, rfl⟩ := Int.eq_ofNat_of_zero_le h0
  have hj : j < xs.length := by omega
  exact ⟨xs[j], List.getElem_mem hj, atI_nat (List.getElem?_eq_getElem hj)⟩
theorem Oth.two {b pl : Addr} {H H' : Hp} (o : Oth [b] H H') : Oth [b, pl] H H' := o.mono (by simp)
theorem toTs_app (a b : List Tp) : Tp.toTs (a ++ b) = Tp.toTs a ++ Tp.toTs b := by rw [Tp.toTs_map, Tp.toTs_map, Tp.toTs_map, List.map_append]
theorem deps_app (b : List Tp) : ∀ a : List Tp, Tp.deps (a ++ b) = max (Tp.deps a) (Tp.deps b)
  | [] => by simp [Tp.deps]
  | t :: a => by simp only [List.cons_append, Tp.deps, deps_app b a]; omega
theorem cnts_app (b : List Tp) : ∀ a : List Tp, Tp.cnts (a ++ b) = Tp.cnts a + Tp.cnts b
  | [] => by simp [Tp.cnts]
  | t :: a => by simp only [List.cons_append, Tp.cnts, cnts_app b a]; omega
theorem deps_parts : ∀ us : List Nat, Tp.deps (us.map Tp.part) = 0
  | [] => rfl
  | u :: us => by simp only [List.map_cons, Tp.deps, Tp.dep, deps_parts us]; rfl
theorem cnts_parts : ∀ us : List Nat, Tp.cnts (us.map Tp.part) = us.length
  | [] => rfl
  | u :: us => by simp only [List.map_cons, Tp.cnts, Tp.cnt, cnts_parts us, List.length_cons]; omega
/-! ### what is known of expressions and templates -/
def E.Ok : E → Prop
  | .num n => 0 ≤ n ∧ n < 1000
  | .plus a b | .minus a b | .same a b | .less a b => a.Ok ∧ b.Ok
  | .ite c a b => c.Ok ∧ a.Ok ∧ b.Ok
  | _ => True
mutual
/-- how many repeats -/
def Tp.ech : Tp → Nat
  | .box _ _ _ cs => Tp.echs cs
  | .each _ cs => Tp.echs cs + 1
  | .when _ cs os => Tp.echs cs + Tp.echs os
  | _ => 0
def Tp.echs : List Tp → Nat
  | [] => 0
  | t :: ts => t.ech + Tp.echs ts
end
mutual
/-- the parts that stand in it -/
def Tp.pts : Tp → List Nat
  | .box _ _ _ cs | .each _ cs => Tp.ptss cs
  | .when _ cs os => Tp.ptss cs ++ Tp.ptss os
  | .part k => [k]
  | _ => []
def Tp.ptss : List Tp → List Nat
  | [] => []
  | t :: ts => t.pts ++ Tp.ptss ts
end
def KeyOk (k : Option E) : Prop := ∀ e ∈ k, e.depth ≤ 3 ∧ e.size ≤ 7 ∧ e.Ok
mutual
def Tp.Ok (own last : Nat) (free : Bool) : Tp → Prop
  | .text s => s = "a" ∨ s = "b c" ∨ s = "7" ∨ s = "x"
  | .show e => e.depth ≤ 1 ∧ e.Ok
  | .box tag key act cs => (tag = "p" ∨ tag = "div" ∨ tag = "li") ∧ KeyOk key ∧ (∀ n ∈ act, n ≤ 2) ∧ Tp.Oks own last free cs
  | .when e cs os => (e.depth ≤ 1 ∧ e.Ok) ∧ Tp.Oks own last false cs ∧ Tp.Oks own last false os
  | .each e cs => (e.depth ≤ 3 ∧ e.Ok) ∧ Tp.Oks own last false cs
  | .child c key props => own < c ∧ c ≤ last ∧ KeyOk key ∧ props.length ≤ 2 ∧ ∀ e ∈ props, e.depth ≤ 1 ∧ e.Ok
  | .part _ => own = 0 ∧ free = true
  | .input tag cell => tag = "q" ∧ cell ≤ 2
def Tp.Oks (own last : Nat) (free : Bool) : List Tp → Prop
  | [] => True
  | t :: ts => t.Ok own last free ∧ Tp.Oks own last free ts
end
theorem echs_app (b : List Tp) : ∀ a : List Tp, Tp.echs (a ++ b) = Tp.echs a + Tp.echs b
  | [] => by simp [Tp.echs]
  | t :: a => by simp only [List.cons_append, Tp.echs, echs_app b a]; omega
theorem ptss_app (b : List Tp) : ∀ a : List Tp, Tp.ptss (a ++ b) = Tp.ptss a ++ Tp.ptss b
  | [] => by simp [Tp.ptss]
  | t :: a => by simp only [List.cons_append, Tp.ptss, ptss_app b a, List.append_assoc]
theorem oks_app {own last : Nat} {free : Bool} {b : List Tp} (hb : Tp.Oks own last free b) : ∀ a : List Tp, Tp.Oks own last free a → Tp.Oks own last free (a ++ b)
  | [], _ => hb
  | t :: a, h => ⟨h.1, oks_app hb a h.2⟩
theorem oks_mem {own last : Nat} {free : Bool} : ∀ {a : List Tp}, Tp.Oks own last free a → ∀ t ∈ a, t.Ok own last free
  | [], _, t, h => nomatch h
  | u :: a, h, t, ht => by
    rcases List.mem_cons.mp ht with rfl | ht
    · exact h.1
    · exact oks_mem h.2 t ht
theorem echs_parts : ∀ us : List Nat, Tp.echs (us.map Tp.part) = 0
  | [] => rfl
  | u :: us => by simp only [List.map_cons, Tp.echs, Tp.ech, echs_parts us]
theorem ptss_parts : ∀ us : List Nat, Tp.ptss (us.map Tp.part) = us
  | [] => rfl
  | u :: us => by simp only [List.map_cons, Tp.ptss, Tp.pts, ptss_parts us]; rfl
theorem oks_parts {last : Nat} : ∀ us : List Nat, Tp.Oks 0 last true (us.map Tp.part)
  | [] => trivial
  | u :: us => ⟨⟨rfl, rfl⟩, oks_parts us⟩
mutual
theorem Tp.Ok.fine {own last : Nat} : ∀ {free : Bool} (t : Tp), t.Ok own last free → t.Fine
  | _, .text _, _ => trivial
  | _, .show e, h => Nat.le_trans h.1 (by decide)
  | _, .box _ key _ cs, h => ⟨fun e he => Nat.le_trans (h.2.1 e he).1 (by decide), Tp.Oks.fine cs h.2.2.2⟩
  | _, .when e cs os, h => ⟨Nat.le_trans h.1.1 (by decide), Tp.Oks.fine cs h.2.1, Tp.Oks.fine os h.2.2⟩
  | _, .each e cs, h => ⟨h.1.1, Tp.Oks.fine cs h.2⟩
  | _, .child _ key props, h => ⟨fun e he => Nat.le_trans (h.2.2.1 e he).1 (by decide), Nat.le_trans h.2.2.2.1 (by decide), fun e he => Nat.le_trans (h.2.2.2.2 e he).1 (by decide)⟩
  | _, .part _, _ => trivial
  | _, .input _ _, _ => trivial
theorem Tp.Oks.fine {own last : Nat} : ∀ {free : Bool} (ts : List Tp), Tp.Oks own last free ts → Tp.Fines ts
  | _, [], _ => trivial
  | _, t :: ts, h => ⟨Tp.Ok.fine t h.1, Tp.Oks.fine ts h.2⟩
end
mutual
theorem Tp.Ok.noparts {own last : Nat} {free : Bool} (hf : ¬ (own = 0 ∧ free = true)) : ∀ (t : Tp), t.Ok own last free → t.pts = []
  | .text _, _ | .show _, _ | .child _ _ _, _ | .input _ _, _ => rfl
  | .box _ _ _ cs, h => Tp.Oks.noparts hf cs h.2.2.2
  | .when _ cs os, h => by simp only [Tp.pts, Tp.Oks.noparts (free := false) (by simp) cs h.2.1, Tp.Oks.noparts (free := false) (by simp) os h.2.2, List.append_nil]
  | .each _ cs, h => Tp.Oks.noparts (free := false) (by simp) cs h.2
  | .part k, h => absurd h hf
theorem Tp.Oks.noparts {own last : Nat} {free : Bool} (hf : ¬ (own = 0 ∧ free = true)) : ∀ (ts : List Tp), Tp.Oks own last free ts → Tp.ptss ts = []
  | [], _ => rfl
  | t :: ts, h => by simp only [Tp.ptss, Tp.Ok.noparts hf t h.1, Tp.Oks.noparts hf ts h.2, List.append_nil]
end
/-! ### programs -/
inductive St1 where
  | set (i : Nat) (e : E) | put (i : Nat) (e : E) | up (a : Nat)
def St1.toT : St1 → T
  | .set i e => .tup [.str "set", .int (i : Int), e.toT]
  | .put i e => .tup [.str "put", .int (i : Int), e.toT]
  | .up a => .tup [.str "up", .int (a : Int)]
def St1.Ok : St1 → Prop
  | .set i e | .put i e => i ≤ 1 ∧ e.depth ≤ 1 ∧ e.Ok
  | .up a => a ≤ 1
def stepsT (r : List St1) : T := .tup (r.map St1.toT)
def actsT (a : List (List St1)) : T := .tup (a.map stepsT)
def natT (n : Nat) : T := .int (n : Int)
def natsT (ns : List Nat) : T := .tup (ns.map natT)
structure Cq where
  cells : List Nat
  cs : List Tp
  acts : List (List St1)
structure Pq where
  comps : List Cq
  store : List Nat
  parts : List Nat
def Cq.toT (c : Cq) : T := .tup [.str "component", natsT c.cells, .tup (Tp.toTs c.cs), actsT c.acts]
def Pq.toT (p : Pq) : T := .tup [.str "program", .tup (p.comps.map Cq.toT), natsT p.store, natsT p.parts]
structure Cq.Ok (i last : Nat) (parts : Nat) (c : Cq) : Prop where
  oks : Tp.Oks i last true c.cs
  deps : Tp.deps c.cs ≤ 3
  cnts : Tp.cnts c.cs ≤ 8
  echs : Tp.echs c.cs ≤ 1
  pts : (Tp.ptss c.cs).Perm (if i = 0 then List.range parts else [])
  cl : c.cells.length ≤ 4
  cells : ∀ n ∈ c.cells, n < 4
  al : c.acts.length ≤ 2
  acts : ∀ a ∈ c.acts, a.length ≤ 2 ∧ ∀ s ∈ a, s.Ok
structure Pq.Ok (g : Pq) : Prop where
  comps : ∀ (i : Nat) (c : Cq), g.comps[i]? = some c → Cq.Ok i (g.comps.length - 1) g.parts.length c
  ne : 0 < g.comps.length
  many : g.comps.length ≤ 3
  pl : g.parts.length ≤ 2
  parts : ∀ n ∈ g.parts, 0 < n ∧ n < g.comps.length
  sl : g.store.length ≤ 2
  store : ∀ n ∈ g.store, n < 4
def spExprY (n : Nat) : Sp := fun vs H Q _ => ∃ (z : Bt) (b dg pl : Addr) (d : Nat), vs = [.ref b, .int (d : Int)] ∧ d < n ∧ By H b dg pl z ∧
  ∀ (e : E) (v : V) (H' : Hp), e.depth ≤ d → e.Ok → IsT H' e.toT v → By H' b dg pl z → Oth [b] H H' → Q v H'
def spKeyY : Sp := fun vs H Q _ => ∃ (z : Bt) (b dg pl : Addr), vs = [.ref b] ∧ By H b dg pl z ∧
  ∀ (k : Option E) (v : V) (H' : Hp), KeyOk k → IsT H' (keyT k) v → By H' b dg pl z → Oth [b] H H' → Q v H'
def spTemplateY (n : Nat) : Sp := fun vs H Q _ => ∃ (z : Bt) (b dg pl : Addr) (own level last r : Nat) (free : Bool), vs = [.ref b, .int (own : Int), .int (level : Int), .int (last : Int), .bl free] ∧ level + r = 3 ∧ r < n ∧ 0 < z.n2 ∧ 0 ≤ z.n4 ∧ By H b dg pl z ∧
  ∀ (z' : Bt) (t : Tp) (v : V) (H' : Hp), t.dep ≤ r → (t.cnt : Int) + z'.n2 = z.n2 → 0 ≤ z'.n2 → (t.ech : Int) + z'.n4 ≤ z.n4 → 0 ≤ z'.n4 → (t.pts ++ z'.ps).Perm z.ps → t.Ok own last free → IsT H' t.toT v → By H' b dg pl z' → Oth [b, pl] H H' → Q v H'
def spContentsY (n : Nat) : Sp := fun vs H Q _ => ∃ (z : Bt) (b dg pl : Addr) (own level last r : Nat) (free : Bool), vs = [.ref b, .int (own : Int), .int (level : Int), .int (last : Int), .bl free] ∧ level + r = 3 ∧ r < n ∧ 0 ≤ z.n2 ∧ 0 ≤ z.n4 ∧ By H b dg pl z ∧
  ∀ (z' : Bt) (ts : List Tp) (v : V) (H' : Hp), Tp.deps ts ≤ r → (Tp.cnts ts : Int) + z'.n2 = z.n2 → 0 ≤ z'.n2 → (Tp.echs ts : Int) + z'.n4 ≤ z.n4 → 0 ≤ z'.n4 → (Tp.ptss ts ++ z'.ps).Perm z.ps → Tp.Oks own last free ts → IsT H' (.tup (Tp.toTs ts)) v → By H' b dg pl z' → Oth [b, pl] H H' → Q v H'
def ActsOk (a : List (List St1)) : Prop := a.length = 2 ∧ ∀ r ∈ a, r.length ≤ 2 ∧ ∀ s ∈ r, s.Ok
def spActionsY : Sp := fun vs H Q _ => ∃ (z : Bt) (b dg pl : Addr), vs = [.ref b] ∧ By H b dg pl z ∧
  ∀ (a : List (List St1)) (v : V) (H' : Hp), ActsOk a → IsT H' (actsT a) v → By H' b dg pl z → Oth [b] H H' → Q v H'
def spProgramY : Sp := fun vs H Q _ => ∃ (z : Bt) (b dg pl : Addr), vs = [.ref b] ∧ By H b dg pl z ∧
  ∀ (g : Pq) (v : V) (pl' : Addr) (z' : Bt) (H' : Hp), g.Ok → IsT H' g.toT v → By H' b dg pl' z' → Oth [b] H H' → Q v H'
def spBoxY (K : PySem.W.Frag) : Sp := fun vs H Q _ => ∃ (a : Addr) (ns : List Int) (i j : Nat), vs = [.ref a, .int (i : Int), .int (j : Int)] ∧ SqL K H a (ns.map V.int) ∧ i ≤ 100 ∧ j ≤ 100 ∧
  ∀ (b d pl : Addr) (H' : Hp), H b = none → Oth [] H H' → By H' b d pl ⟨0, 0, []⟩ → Q (.ref b) H'
theorem nats_paired {H : Hp} : ∀ ms : List Nat, Paired (IsT H) (ms.map natT) (ms.map natV)
  | [] => .nil
  | m :: ms => .cons (.int _) (nats_paired ms)
theorem mkNats {H : Hp} {a : Addr} {ns : List Nat} (e : H a = some (.tup (ns.map natV))) : IsT H (natsT ns) (.ref a) := .mk e (nats_paired ns)
end Pw
namespace Pw
open PySem PySem.Spec PyProof.Rows L2
mutual
def T.nk : T → NestedKey
  | .non => .none
  | .bl b => .num (if b = true then 1 else 0)
  | .int i => .num i
  | .str s => .text s
  | .tup ts => .tup (T.nks ts)
def T.nks : List T → List NestedKey
  | [] => []
  | t :: ts => t.nk :: T.nks ts
end
theorem nks_len : ∀ ts : List T, (T.nks ts).length = ts.length
  | [] => rfl
  | t :: ts => congrArg (· + 1) (nks_len ts)
theorem nested_all {h : Heap} : ∀ (ts : List T) (xs : List V) (us : List Value), xs.length = ts.length → Vals xs us → (∀ (i : Nat) (t : T) (x : V), ts[i]? = some t → xs[i]? = some x → ∀ u, RelV x u → NestedIs h t.nk u) → NestedAll h (T.nks ts) us
  | [], [], _, _, .nil, _ => .nil
  | [], _ :: _, _, l, _, _ => by cases l
  | _ :: _, [], _, l, _, _ => by cases l
  | t :: ts, x :: xs, _, l, .cons r rr, q => .cons (q 0 t x rfl rfl _ r) (nested_all ts xs _ (Nat.succ.inj l) rr fun i t' x' e1 e2 => q (i + 1) t' x' e1 e2)
theorem nested_is {P : Program} {w : World} {H : Hp} {h : Heap} (ok : HOk P w H h) {t : T} {v : V} (i : IsT H t v) : ∀ u, RelV v u → NestedIs h t.nk u := by
  induction i with
  | non => intro u r; cases (show u = Value.none from r); exact .none
  | bl b => intro u r; cases (show u = Value.bool b from r); exact .bool rfl
  | int i => intro u r; obtain ⟨t, rfl⟩ := (show ∃ t, u = Value.int i t from r); exact .int _ _
  | str s => intro u r; obtain ⟨t, rfl⟩ := (show ∃ t, u = Value.str s t from r); exact .text _ _
  | @tup a xs ts e l _ ih =>
    intro u r
    cases (show u = Value.ref a from r)
    obtain ⟨_, its, rv, o, h1, h2, n, h3⟩ := (show ObjOk P w H h a (.tup xs) from ok a _ e)
    exact .tup h1 h2 h3 (nested_all ts xs its l rv ih)
/-- the one object of such a dict -/
def NDφ (P : Program) (w : World) (a : Addr) (xs : List (NestedKey × Addr × Value)) (h : Heap) : Prop :=
  ∃ o es ep, h.get? a = some o ∧ o.ExactDict ∧ o.data = .dict es ep ∧ es.toList = xs.map (entryOfKey (nestedKind P w)) ∧ (xs.map (·.1)).Nodup
mutual
/-- no truth value in it -/
def T.nob : T → Bool
  | .bl _ => false
  | .tup ts => T.nobs ts
  | _ => true
def T.nobs : List T → Bool
  | [] => true
  | t :: ts => t.nob && T.nobs ts
end
mutual
theorem nk_one : ∀ a b : T, a.nob = true → b.nob = true → a.nk = b.nk → a = b
  | .non, b, _, hb, h => by cases b <;> simp_all [T.nk, T.nob]
  | .bl _, b, ha, _, _ => by simp [T.nob] at ha
  | .int i, b, _, hb, h => by cases b <;> simp_all [T.nk, T.nob]
  | .str s, b, _, hb, h => by cases b <;> simp_all [T.nk, T.nob]
  | .tup ts, b, ha, hb, h => by
    cases b with
    | tup us =>
      simp only [T.nk, NestedKey.tup.injEq] at h
      simp only [T.nob] at ha hb
      rw [nks_one ts us ha hb h]
    | _ => simp [T.nk] at h
theorem nks_one : ∀ a b : List T, T.nobs a = true → T.nobs b = true → T.nks a = T.nks b → a = b
  | [], [], _, _, _ => rfl
  | [], _ :: _, _, _, h => by simp [T.nks] at h
  | _ :: _, [], _, _, h => by simp [T.nks] at h
  | x :: a, y :: b, ha, hb, h => by
    simp only [T.nobs, Bool.and_eq_true] at ha hb
    simp only [T.nks, List.cons.injEq] at h
    rw [nk_one x y ha.1 hb.1 h.1, nks_one a b ha.2 hb.2 h.2]
end
/-- a key that stands in the heap -/
def NKey (H : Hp) (k : NestedKey) (b : Addr) : Prop := ∃ t : T, t.nk = k ∧ IsT H t (.ref b) ∧ k.depth ≤ 8 ∧ t.nob = true
abbrev NT (H : Hp) : List (NestedKey × V) → List (NestedKey × Addr × Value) → Prop := Paired fun p q => p.1 = q.1 ∧ NKey H p.1 q.2.1 ∧ RelV p.2 q.2.2
/-- at a stands a dict of nested keys -/
def DN (P : Program) (w : World) (H : Hp) (a : Addr) (kvs : List (NestedKey × V)) : Prop :=
  ∃ xs, H a = some (.ext (NDφ P w a xs)) ∧ kvs.length ≤ sizeLine ∧ (a == sysModules) = false ∧ NT H kvs xs
section
variable {P : Program} {w : World} {H H' : Hp} {h : Heap} {a b : Addr} {S : List Addr} {kvs : List (NestedKey × V)} {xs : List (NestedKey × Addr × Value)} {k : NestedKey}
theorem NKey.oth (x : NKey H k b) (o : Oth S H H') : NKey H' k b := by
  obtain ⟨t, e, i, d, z⟩ := x
  exact ⟨t, e, i.oth o, d, z⟩
theorem NT.oth (r : NT H kvs xs) (o : Oth S H H') : NT H' kvs xs := by
  induction r with
  | nil => exact .nil
  | cons h t ih => exact .cons ⟨h.1, h.2.1.oth o, h.2.2⟩ ih
theorem DN.oth (x : DN P w H a kvs) (o : Oth S H H') (n : a ∉ S) : DN P w H' a kvs := by
  obtain ⟨xs, e, z, y, r⟩ := x
  exact ⟨xs, o.keep a _ n e, z, y, r.oth o⟩
theorem DN.ne (x : DN P w H a kvs) (n : H b = none) : a ≠ b := by
  obtain ⟨xs, e, z, y, r⟩ := x
  exact ne_of_none e n
theorem DN.is (x : DN P w H a kvs) : ∃ φ, H a = some (.ext φ) := by
  obtain ⟨xs, e, z, y, r⟩ := x
  exact ⟨_, e⟩
theorem NKey.ok (ok : HOk P w H h) (x : NKey H k b) : (nestedKind P w).is h k b := by
  obtain ⟨t, rfl, i, d, _⟩ := x
  exact ⟨nested_is ok i _ rfl, d⟩
theorem NT.all (ok : HOk P w H h) (r : NT H kvs xs) : ∀ x ∈ xs, (nestedKind P w).is h x.1 x.2.1 := by
  induction r with
  | nil => intro x hx; exact nomatch hx
  | cons q t ih =>
    intro x hx
    rcases List.mem_cons.mp hx with e | hx
    · subst e
      have := NKey.ok ok q.2.1
      rw [q.1] at this
      exact this
    · exact ih x hx
theorem DN.open (ok : HOk P w H h) (x : DN P w H a kvs) : ∃ xs, kvs.length ≤ sizeLine ∧ (a == sysModules) = false ∧ NT H kvs xs ∧ h.DictOfH (nestedKind P w) a xs := by
  obtain ⟨xs, e, z, y, r⟩ := x
  obtain ⟨⟨o, es, ep, h1, h2, h3, h4, h5⟩, _⟩ := (show ObjOk P w H h a (.ext (NDφ P w a xs)) from ok a _ e)
  exact ⟨xs, z, y, r, o, es, ep, h1, h2, h3, h4, r.all ok, h5⟩
theorem ND_ok (hm : h.DictOfH (nestedKind P w) a xs) : ObjOk P w H h a (.ext (NDφ P w a xs)) := by
  obtain ⟨o, es, ep, h1, h2, h3, h4, h6, h5⟩ := hm
  refine ⟨⟨o, es, ep, h1, h2, h3, h4, h5⟩, ⟨o, h1⟩, fun g1 g2 hg k => ?_⟩
  obtain ⟨o, es, ep, h1, h2, h3, h4, h5⟩ := hg
  exact ⟨o, es, ep, k _ h1, h2, h3, h4, h5⟩
theorem NT.val (r : NT H kvs xs) (k : NestedKey) : RelO (valV kvs k) ((atKey xs k).map (·.2)) := by
  induction r with
  | nil => exact True.intro
  | @cons p q ps qs h t ih =>
    obtain ⟨h1, h2, h3⟩ := h
    by_cases e : p.1 = k
    · have e' : q.1 = k := h1.symm.trans e
      have b : atKey (q :: qs) k = some q.2 := by simp [atKey, List.find?_cons, e']
      rw [valV_pos e, b]; exact h3
    · have e' : ¬ q.1 = k := fun z => e (h1.trans z)
      have b : atKey (q :: qs) k = atKey qs k := by simp [atKey, List.find?_cons, e']
      rw [valV_neg e, b]; exact ih
theorem NT.repl (r : NT H kvs xs) (k : NestedKey) {y : V} {u : Value} (ry : RelV y u) : NT H (kvs.map fun kv => if kv.1 = k then (kv.1, y) else kv) (xs.map (putAt k u)) := by
  induction r with
  | nil => exact .nil
  | @cons p q ps qs h t ih =>
    obtain ⟨h1, h2, h3⟩ := h
    rw [List.map_cons, List.map_cons]
    refine .cons ?_ ih
    unfold putAt
    by_cases e : p.1 = k
    · rw [if_pos e, if_pos (h1.symm.trans e)]; exact ⟨h1, h2, ry⟩
    · rw [if_neg e, if_neg (fun z => e (h1.trans z))]; exact ⟨h1, h2, h3⟩
theorem NT.put (r : NT H kvs xs) (k : NestedKey) {y : V} {u : Value} (hb : NKey H k b) (ry : RelV y u) : NT H (putK kvs k y) (storedH xs k b u) := by
  have e : (kvs.any fun kv => decide (kv.1 = k)) = (atKey xs k).isSome := by
    rw [valV_any, (r.val k).isSome_eq, Option.isSome_map]
  unfold putK storedH
  rw [e]
  by_cases q : (atKey xs k).isSome = true
  · rw [if_pos q, if_pos q]; exact r.repl k ry
  · rw [if_neg q, if_neg q]; exact Paired.snoc r ⟨rfl, hb, ry⟩
end
section
variable {X : Cx} {pos : Pos}
/-- {} -/
def tDNewN (P : Program) (w : World) : TE := fun _ H Q => ∀ p H', H p = none → Oth [] H H' → H' p ≠ none → DN P w H' p [] → Q (.ref p) H'
theorem pe_dnewN : PE X (.Dict [] [] pos) (tDNewN X.prog X.w) := ⟨fun pins s σ H Q I h => by
  have hn := I.hok.fresh (Nat.le_refl s.heap.objs.size)
  refine wpAny_Dict_empty ⟨.ref s.heap.objs.size, _, I.laid (a := s.heap.objs.size) (o := .ext (NDφ X.prog X.w s.heap.objs.size [])) (t' := s.toks) (fun _ _ q => Heap.get?_push_of_some _ q) (Nat.le_refl _) (ND_ok (Heap.DictOfH.new s.heap)), rfl, h _ _ hn (Oth.new hn) (by rw [upd_same]; exact fun z => nomatch z) ?_⟩
  exact ⟨[], upd_same, Nat.zero_le _, beq_eq_false_iff_ne.mpr (Ne.symm (Nat.ne_of_lt I.big)), .nil⟩⟩
/-- x in d -/
def rInN (P : Program) (w : World) : R2 := fun x y H Q => ∃ b a k kvs, x = .ref b ∧ y = .ref a ∧ NKey H k b ∧ DN P w H a kvs ∧ Q (.bl (valV kvs k).isSome) H
theorem op_inN (hu : X.A.units + 20 < cLine) : OpR X (compareOp .In) (rInN X.prog X.w) := by
  intro pins s σ H x y v u Q I r1 r2 h
  obtain ⟨b, a, k, kvs, rfl, rfl, hk, hd, q⟩ := h
  cases (show v = Value.ref b from r1)
  cases (show u = Value.ref a from r2)
  obtain ⟨xs, z, hs, rel, dd⟩ := hd.open I.hok
  refine wpAny_in_heap (knd := nestedKind X.prog X.w) (by show X.A.units + 1 + 8 < cLine; omega) (hk.ok I.hok) hs dd ?_
  have e := (rel.val k).isSome_eq
  rw [Option.isSome_map] at e
  rw [← e]
  exact ⟨.bl _, H, I.tok _, rfl, q⟩
/-- d[x] -/
def rIxN (P : Program) (w : World) : R2 := fun y x H Q => ∃ b a k kvs v, x = .ref b ∧ y = .ref a ∧ NKey H k b ∧ DN P w H a kvs ∧ valV kvs k = some v ∧ Q v H
theorem n_getItem {pins : List (Addr × Obj)} {σ : L2.St} {H : Hp} {s : Shared} {A : Around} {E : Value → Shared → Prop} {a b : Addr} {kvs : List (NestedKey × V)} {k : NestedKey} {v : V} {Q : Value → Shared → Prop} (hu : A.units + 20 < cLine) (I : Inv X pins σ H s) (hk : NKey H k b) (hd : DN X.prog X.w H a kvs) (hv : valV kvs k = some v)
    (h : ∀ w' s', Inv X pins σ H s' → RelV v w' → Q w' s') : wpAny (model X.prog X.w) A (getItem (.ref a) (.ref b)) Q E s := by
  obtain ⟨xs, z, hs, rel, dd⟩ := hd.open I.hok
  obtain ⟨w', hw, rw'⟩ := RelO.some_of (v := v) (o := (atKey xs k).map (·.2)) (by rw [← hv]; exact rel.val k)
  obtain ⟨p, hp, hp2⟩ := Option.map_eq_some_iff.mp hw
  refine wpAny_getItem_heap (knd := nestedKind X.prog X.w) (by show A.units + 1 + 8 < cLine; omega) (hk.ok I.hok) dd hp ?_
  rw [hp2]
  exact h w' _ (I.tok _) rw'
/-- d[x] = v -/
def rSetN (P : Program) (w : World) : V → V → V → Hp → (Hp → Prop) → Prop := fun o i v H Q => ∃ a b k kvs, o = .ref a ∧ i = .ref b ∧ NKey H k b ∧ DN P w H a kvs ∧ kvs.length < sizeLine ∧
  ∀ H', Oth [a] H H' → DN P w H' a (putK kvs k v) → Q H'
theorem set_nest (hu : X.A.units + 20 < cLine) : PSet X (rSetN X.prog X.w) := by
  intro pins s σ H o i v ov iv u Q I ro ri rv h
  obtain ⟨a, b, k, kvs, rfl, rfl, hk, hd, hl, q⟩ := h
  cases (show ov = Value.ref a from ro)
  cases (show iv = Value.ref b from ri)
  obtain ⟨φ, ea⟩ := hd.is
  obtain ⟨xs, z, hs, rel, dd⟩ := hd.open I.hok
  have hz : xs.length ≤ sizeLine := by rw [← Paired.length rel]; exact z
  refine wpAny_setItem_heap (knd := nestedKind X.prog X.w) (hsz := hz) (by show X.A.units + 1 + 8 < cLine; omega) (hk.ok I.hok) dd fun h' dd' hs' => ?_
  have he : ∃ q, h'.get? a = some q := let ⟨q, _, _, hq, _⟩ := dd'; ⟨q, hq⟩
  have o1 : Oth [a] H (upd H a (.ext (NDφ X.prog X.w a (storedH xs k b u)))) := ⟨fun c o' n e => by rw [upd_ne (fun z => n (by rw [z]; simp))]; exact e, fun c ys e => by rw [upd_ne (ne_of e ea (fun z => nomatch z))]; exact e⟩
  exact ⟨_, d_write I (by rw [ea]; exact True.intro) hs' he (ND_ok dd'), q _ o1 ⟨_, upd_same, by have := length_putK kvs k v; omega, hs, (rel.put k hk rv).oth o1⟩⟩
end
end Pw
namespace Pw
open PySem PySem.Spec PyProof.Rows L2
theorem take_snoc {α : Type} {l : List α} {i : Nat} {x : α} (h : l[i]? = some x) : l.take (i + 1) = l.take i ++ [x] := by
  rw [List.take_add_one, h]
  rfl
theorem IsT.mkI {H : Hp} {a : Addr} {ns : List Int} (e : H a = some (.tup (ns.map V.int))) : IsT H (.tup (ns.map .int)) (.ref a) := .mk e (int_paired ns)
inductive Nm where
  | at (t i : List Int) | key (t : List Int) (v : Int) | part (k : Nat)
deriving DecidableEq
def intsT (ns : List Int) : T := .tup (ns.map .int)
def Nm.toT : Nm → T
  | .at t i => .tup [.str "at", intsT t, intsT i]
  | .key t v => .tup [.str "key", intsT t, .int v]
  | .part k => .tup [.str "part", .int (k : Int)]
theorem nks_ints : ∀ {a b : List Int}, T.nks (a.map .int) = T.nks (b.map .int) → a = b
  | [], [], _ => rfl
  | [], _ :: _, h => by simp [T.nks] at h
  | _ :: _, [], h => by simp [T.nks] at h
  | x :: a, y :: b, h => by
    simp only [List.map_cons, T.nks, T.nk, List.cons.injEq, NestedKey.num.injEq] at h
    rw [h.1, nks_ints h.2]
theorem ints_nk {a b : List Int} (h : (intsT a).nk = (intsT b).nk) : a = b := by
  simp only [intsT, T.nk, NestedKey.tup.injEq] at h
  exact nks_ints h
theorem Nm.nk_inj {a b : Nm} (h : a.toT.nk = b.toT.nk) : a = b := by
  cases a with
  | «at» t i => cases b with
    | «at» t' i' =>
      simp only [Nm.toT, T.nk, T.nks, NestedKey.tup.injEq, List.cons.injEq] at h
      have h1 := ints_nk h.2.1
      have h2 := ints_nk h.2.2.1
      rw [h1, h2]
    | key t' v' => exfalso; simp only [Nm.toT, T.nk, T.nks, NestedKey.tup.injEq, List.cons.injEq, NestedKey.text.injEq] at h; exact absurd h.1 (by decide)
    | part k' => exfalso; simp only [Nm.toT, T.nk, T.nks, NestedKey.tup.injEq, List.cons.injEq, NestedKey.text.injEq] at h; exact absurd h.1 (by decide)
  | key t v => cases b with
    | «at» t' i' => exfalso; simp only [Nm.toT, T.nk, T.nks, NestedKey.tup.injEq, List.cons.injEq, NestedKey.text.injEq] at h; exact absurd h.1 (by decide)
    | key t' v' =>
      simp only [Nm.toT, T.nk, T.nks, NestedKey.tup.injEq, List.cons.injEq, NestedKey.num.injEq] at h
      have h1 := ints_nk h.2.1
      rw [h1, h.2.2.1]
    | part k' => exfalso; simp only [Nm.toT, T.nk, T.nks, NestedKey.tup.injEq, List.cons.injEq, NestedKey.text.injEq] at h; exact absurd h.1 (by decide)
  | part k => cases b with
    | «at» t' i' => exfalso; simp only [Nm.toT, T.nk, T.nks, NestedKey.tup.injEq, List.cons.injEq, NestedKey.text.injEq] at h; exact absurd h.1 (by decide)
    | key t' v' => exfalso; simp only [Nm.toT, T.nk, T.nks, NestedKey.tup.injEq, List.cons.injEq, NestedKey.text.injEq] at h; exact absurd h.1 (by decide)
    | part k' =>
      simp only [Nm.toT, T.nk, T.nks, NestedKey.tup.injEq, List.cons.injEq, NestedKey.num.injEq] at h
      have : k = k' := by omega
      rw [this]
/-! ### a row as it is laid out -/
structure Dr where
  wish : Nm
  other : Nm
  tp : Tp
  idx : Int
def Dr.toT (d : Dr) : T := .tup [d.wish.toT, d.other.toT, d.tp.toT, .int d.idx]
def Tp.key? : Tp → Option E
  | .box _ k _ _ => k
  | .child _ k _ => k
  | _ => none
def keyNm (c : Sc) (addr reps : List Int) : Option E → Nm
  | some e => .key addr (e.val c)
  | none => .at addr reps
def Tp.wish (c : Sc) (addr reps : List Int) : Tp → Nm
  | .part k => .part k
  | t => keyNm c addr reps t.key?
def keyLooks (c : Sc) : Option E → List Int
  | some e => e.looks c
  | none => []
mutual
def Tp.dis1 (c : Sc) (addr reps : List Int) : Tp → List Dr
  | .when e cs os => if e.val c = 0 then Tp.dis c (addr ++ [1]) reps 0 os else Tp.dis c (addr ++ [0]) reps 0 cs
  | .each e cs => (List.range ((e.val c) % 6).toNat).flatMap fun (n : Nat) => Tp.dis { c with index := (n : Int) } addr (reps ++ [(n : Int)]) 0 cs
  | .text s => [⟨.at addr reps, .at addr reps, .text s, c.index⟩]
  | .show e => [⟨.at addr reps, .at addr reps, .show e, c.index⟩]
  | .box tag key act cs => [⟨keyNm c addr reps key, .at addr reps, .box tag key act cs, c.index⟩]
  | .child n key props => [⟨keyNm c addr reps key, .at addr reps, .child n key props, c.index⟩]
  | .part k => [⟨.part k, .at addr reps, .part k, c.index⟩]
  | .input tag cell => [⟨.at addr reps, .at addr reps, .input tag cell, c.index⟩]
def Tp.dis (c : Sc) (before reps : List Int) (k : Nat) : List Tp → List Dr
  | [] => []
  | t :: ts => t.dis1 c (before ++ [(k : Int)]) reps ++ Tp.dis c before reps (k + 1) ts
end
mutual
def Tp.lk1 (c : Sc) : Tp → List Int
  | .when e cs os => e.looks c ++ if e.val c = 0 then Tp.lks c os else Tp.lks c cs
  | .each e cs => e.looks c ++ (List.range ((e.val c) % 6).toNat).flatMap fun (n : Nat) => Tp.lks { c with index := (n : Int) } cs
  | .box _ key _ _ => keyLooks c key
  | .child _ key _ => keyLooks c key
  | _ => []
def Tp.lks (c : Sc) : List Tp → List Int
  | [] => []
  | t :: ts => t.lk1 c ++ Tp.lks c ts
end
theorem Tp.dis_app (c : Sc) (before reps : List Int) : ∀ (a b : List Tp) (k : Nat), Tp.dis c before reps k (a ++ b) = Tp.dis c before reps k a ++ Tp.dis c before reps (k + a.length) b
  | [], b, k => rfl
  | t :: a, b, k => by
    simp only [List.cons_append, Tp.dis, Tp.dis_app c before reps a b, List.append_assoc, List.length_cons]
    rw [show k + 1 + a.length = k + (a.length + 1) by omega]
theorem Tp.lks_app (c : Sc) : ∀ (a b : List Tp), Tp.lks c (a ++ b) = Tp.lks c a ++ Tp.lks c b
  | [], b => rfl
  | t :: a, b => by simp only [List.cons_append, Tp.lks, Tp.lks_app c a b, List.append_assoc]
/-! ### how long rows are -/
theorem E.size_le : ∀ (e : E) (d : Nat), e.depth ≤ d → e.size ≤ 3 ^ d
  | .num _, d, _ | .cell _, d, _ | .prop _, d, _ | .store _, d, _ | .index, d, _ => Nat.one_le_pow d 3 (by decide)
  | .plus a b, d, h | .minus a b, d, h | .same a b, d, h | .less a b, d, h => by
    simp only [E.depth] at h
    obtain ⟨d, rfl⟩ : ∃ n, d = n + 1 := ⟨d - 1, by omega⟩
    have h1 := E.size_le a d (by omega)
    have h2 := E.size_le b d (by omega)
    rw [Nat.pow_succ]
    simp only [E.size]
    omega
  | .ite c a b, d, h => by
    simp only [E.depth] at h
    obtain ⟨d, rfl⟩ : ∃ n, d = n + 1 := ⟨d - 1, by omega⟩
    have h0 := E.size_le c d (by omega)
    have h1 := E.size_le a d (by omega)
    have h2 := E.size_le b d (by omega)
    rw [Nat.pow_succ]
    simp only [E.size]
    omega
def ksz : Option E → Nat
  | some e => e.size
  | none => 0
def psz : List E → Nat
  | [] => 0
  | e :: es => e.size + psz es
mutual
/-- how much a template can give, its expressions told -/
def Tp.wt : Tp → Nat
  | .when e cs os => e.size + Tp.wts cs + Tp.wts os + 1
  | .each e cs => e.size + 5 * Tp.wts cs + 1
  | .box _ key _ cs => ksz key + Tp.wts cs + 1
  | .child _ key props => ksz key + psz props + 1
  | .show e => e.size + 1
  | _ => 1
def Tp.wts : List Tp → Nat
  | [] => 0
  | t :: ts => t.wt + Tp.wts ts
end
theorem wts_app (b : List Tp) : ∀ a : List Tp, Tp.wts (a ++ b) = Tp.wts a + Tp.wts b
  | [] => by simp [Tp.wts]
  | t :: a => by simp only [List.cons_append, Tp.wts, wts_app b a]; omega
theorem wts_mem {t : Tp} : ∀ {ts : List Tp}, t ∈ ts → t.wt ≤ Tp.wts ts
  | u :: ts, h => by
    simp only [Tp.wts]
    rcases List.mem_cons.mp h with rfl | h
    · omega
    · have := wts_mem h; omega
theorem deps_mem {t : Tp} : ∀ {ts : List Tp}, t ∈ ts → t.dep ≤ Tp.deps ts
  | u :: ts, h => by
    simp only [Tp.deps]
    rcases List.mem_cons.mp h with rfl | h
    · omega
    · have := deps_mem h; omega
theorem fines_mem {t : Tp} : ∀ {ts : List Tp}, Tp.Fines ts → t ∈ ts → t.Fine
  | u :: ts, f, h => by
    rcases List.mem_cons.mp h with rfl | h
    · exact f.1
    · exact fines_mem f.2 h
theorem keyLooks_le (c : Sc) : ∀ k : Option E, (keyLooks c k).length ≤ ksz k
  | none => Nat.le_refl _
  | some e => e.looks_le c
theorem mod6 (x : Int) : (x % 6).toNat ≤ 5 := by omega
theorem flat_len {α : Type} {f : Nat → List α} {m : Nat} (h : ∀ n, (f n).length ≤ m) : ∀ r : Nat, ((List.range r).flatMap f).length ≤ r * m
  | 0 => by simp
  | r + 1 => by
    rw [List.range_succ, List.flatMap_append, List.length_append, Nat.succ_mul]
    have := flat_len h r
    have := h r
    simp only [List.flatMap_cons, List.flatMap_nil, List.append_nil]
    omega
mutual
theorem Tp.dis1_len : ∀ (t : Tp) (c : Sc) (addr reps : List Int), (t.dis1 c addr reps).length ≤ t.wt
  | .when e cs os, c, addr, reps => by
    simp only [Tp.dis1, Tp.wt]
    split
    · have := Tp.dis_len os c (addr ++ [1]) reps 0; omega
    · have := Tp.dis_len cs c (addr ++ [0]) reps 0; omega
  | .each e cs, c, addr, reps => by
    simp only [Tp.dis1, Tp.wt]
    have h1 := flat_len (f := fun n : Nat => Tp.dis { c with index := (n : Int) } addr (reps ++ [(n : Int)]) 0 cs) (m := Tp.wts cs) (fun n => Tp.dis_len cs _ _ _ _) ((e.val c) % 6).toNat
    have h2 := Nat.mul_le_mul_right (Tp.wts cs) (mod6 (e.val c))
    omega
  | .text s, c, addr, reps | .show s, c, addr, reps | .box _ _ _ _, c, addr, reps | .child _ _ _, c, addr, reps | .part _, c, addr, reps | .input _ _, c, addr, reps => by simp [Tp.dis1, Tp.wt]
theorem Tp.dis_len : ∀ (ts : List Tp) (c : Sc) (before reps : List Int) (k : Nat), (Tp.dis c before reps k ts).length ≤ Tp.wts ts
  | [], c, before, reps, k => Nat.le_refl _
  | t :: ts, c, before, reps, k => by
    simp only [Tp.dis, Tp.wts, List.length_append]
    have := Tp.dis1_len t c (before ++ [(k : Int)]) reps
    have := Tp.dis_len ts c before reps (k + 1)
    omega
end
mutual
theorem Tp.lk1_len : ∀ (t : Tp) (c : Sc), (t.lk1 c).length ≤ t.wt
  | .when e cs os, c => by
    have := e.looks_le c
    simp only [Tp.lk1, Tp.wt, List.length_append]
    split
    · have := Tp.lks_len os c; omega
    · have := Tp.lks_len cs c; omega
  | .each e cs, c => by
    have := e.looks_le c
    simp only [Tp.lk1, Tp.wt, List.length_append]
    have h1 := flat_len (f := fun n : Nat => Tp.lks { c with index := (n : Int) } cs) (m := Tp.wts cs) (fun n => Tp.lks_len cs _) ((e.val c) % 6).toNat
    have h2 := Nat.mul_le_mul_right (Tp.wts cs) (mod6 (e.val c))
    omega
  | .box _ key _ cs, c => by have := keyLooks_le c key; simp only [Tp.lk1, Tp.wt]; omega
  | .child _ key _, c => by have := keyLooks_le c key; simp only [Tp.lk1, Tp.wt]; omega
  | .text _, c | .show _, c | .part _, c | .input _ _, c => by simp [Tp.lk1]
theorem Tp.lks_len : ∀ (ts : List Tp) (c : Sc), (Tp.lks c ts).length ≤ Tp.wts ts
  | [], c => Nat.le_refl _
  | t :: ts, c => by
    simp only [Tp.lks, Tp.wts, List.length_append]
    have := Tp.lk1_len t c
    have := Tp.lks_len ts c
    omega
end
theorem ksz_le {k : Option E} (h : KeyOk k) : ksz k ≤ 7 := by
  cases k with
  | none => exact Nat.zero_le _
  | some e => exact (h e rfl).2.1
theorem psz_le : ∀ (es : List E), (∀ e ∈ es, e.depth ≤ 1 ∧ e.Ok) → psz es ≤ 3 * es.length
  | [], _ => Nat.le_refl _
  | e :: es, h => by
    have h1 := E.size_le e 1 (h e List.mem_cons_self).1
    have h2 := psz_le es fun x hx => h x (List.mem_cons_of_mem _ hx)
    simp only [psz, List.length_cons]
    omega
mutual
theorem Tp.wt_le0 {own last : Nat} : ∀ {free : Bool} (t : Tp), t.Ok own last free → t.ech = 0 → t.wt ≤ 14 * t.cnt
  | _, .text _, _, _ | _, .part _, _, _ | _, .input _ _, _, _ => by simp [Tp.wt, Tp.cnt]
  | _, .show e, h, _ => by have := E.size_le e 1 h.1; simp only [Tp.wt, Tp.cnt]; omega
  | _, .box _ key _ cs, h, z => by
    have := ksz_le h.2.1
    have := Tp.wts_le0 cs h.2.2.2 z
    simp only [Tp.wt, Tp.cnt]; omega
  | _, .when e cs os, h, z => by
    simp only [Tp.ech] at z
    have := E.size_le e 1 h.1.1
    have := Tp.wts_le0 cs h.2.1 (by omega)
    have := Tp.wts_le0 os h.2.2 (by omega)
    simp only [Tp.wt, Tp.cnt]; omega
  | _, .each e cs, h, z => by simp [Tp.ech] at z
  | _, .child _ key props, h, _ => by
    have := ksz_le h.2.2.1
    have := psz_le props h.2.2.2.2
    have := h.2.2.2.1
    simp only [Tp.wt, Tp.cnt]; omega
theorem Tp.wts_le0 {own last : Nat} : ∀ {free : Bool} (ts : List Tp), Tp.Oks own last free ts → Tp.echs ts = 0 → Tp.wts ts ≤ 14 * Tp.cnts ts
  | _, [], _, _ => Nat.le_refl _
  | _, t :: ts, h, z => by
    simp only [Tp.echs] at z
    have := Tp.wt_le0 t h.1 (by omega)
    have := Tp.wts_le0 ts h.2 (by omega)
    simp only [Tp.wts, Tp.cnts]; omega
end
mutual
theorem Tp.wt_le {own last : Nat} : ∀ {free : Bool} (t : Tp), t.Ok own last free → t.ech ≤ 1 → t.wt ≤ 70 * t.cnt
  | _, .text _, _, _ | _, .part _, _, _ | _, .input _ _, _, _ => by simp [Tp.wt, Tp.cnt]
  | _, .show e, h, _ => by have := E.size_le e 1 h.1; simp only [Tp.wt, Tp.cnt]; omega
  | _, .box _ key _ cs, h, z => by
    have := ksz_le h.2.1
    have := Tp.wts_le cs h.2.2.2 z
    simp only [Tp.wt, Tp.cnt]; omega
  | _, .when e cs os, h, z => by
    simp only [Tp.ech] at z
    have := E.size_le e 1 h.1.1
    have := Tp.wts_le cs h.2.1 (by omega)
    have := Tp.wts_le os h.2.2 (by omega)
    simp only [Tp.wt, Tp.cnt]; omega
  | _, .each e cs, h, z => by
    simp only [Tp.ech] at z
    have := E.size_le e 3 h.1.1
    have := Tp.wts_le0 cs h.2 (by omega)
    simp only [Tp.wt, Tp.cnt]; omega
  | _, .child _ key props, h, _ => by
    have := ksz_le h.2.2.1
    have := psz_le props h.2.2.2.2
    have := h.2.2.2.1
    simp only [Tp.wt, Tp.cnt]; omega
theorem Tp.wts_le {own last : Nat} : ∀ {free : Bool} (ts : List Tp), Tp.Oks own last free ts → Tp.echs ts ≤ 1 → Tp.wts ts ≤ 70 * Tp.cnts ts
  | _, [], _, _ => Nat.le_refl _
  | _, t :: ts, h, z => by
    simp only [Tp.echs] at z
    have := Tp.wt_le t h.1 (by omega)
    have := Tp.wts_le ts h.2 (by omega)
    simp only [Tp.wts, Tp.cnts]; omega
end
/-! ### names -/
/-- the program's: the wish, unless it is taken -/
def named (tk : List Nm) : List Dr → List (Nm × Tp × Int)
  | [] => []
  | d :: r => let n := if d.wish ∈ tk then d.other else d.wish; (n, d.tp, d.idx) :: named (tk ++ [n]) r
/-- the law's: a part has its name always -/
def lawName (tk : List Nm) (d : Dr) : Nm :=
  match d.wish with
  | .key t v => if Nm.key t v ∈ tk then d.other else .key t v
  | n => n
def lawNamed (tk : List Nm) : List Dr → List (Nm × Tp × Int)
  | [] => []
  | d :: r => (lawName tk d, d.tp, d.idx) :: lawNamed (tk ++ [lawName tk d]) r
theorem lawNamed_app (r : List Dr) : ∀ (tk : List Nm) (a : List Dr), lawNamed tk (a ++ r) = lawNamed tk a ++ lawNamed (tk ++ (lawNamed tk a).map (·.1)) r
  | tk, [] => by simp [lawNamed]
  | tk, d :: a => by
    simp only [List.cons_append, lawNamed, lawNamed_app r, List.map_cons, List.append_assoc, List.nil_append]
theorem lawNamed_len : ∀ (tk : List Nm) (a : List Dr), (lawNamed tk a).length = a.length
  | tk, [] => rfl
  | tk, d :: a => by simp only [lawNamed, List.length_cons, lawNamed_len]
theorem named_app (r : List Dr) : ∀ (tk : List Nm) (a : List Dr), named tk (a ++ r) = named tk a ++ named (tk ++ (named tk a).map (·.1)) r
  | tk, [] => by simp [named]
  | tk, d :: a => by
    simp only [List.cons_append, named, named_app r, List.map_cons, List.append_assoc, List.nil_append]
theorem named_len : ∀ (tk : List Nm) (a : List Dr), (named tk a).length = a.length
  | tk, [] => rfl
  | tk, d :: a => by simp only [named, List.length_cons, named_len]
def Dr.partOf (d : Dr) : List Nat := match d.wish with
  | .part k => [k]
  | _ => []
def partsIn' : List Dr → List Nat
  | [] => []
  | d :: r => d.partOf ++ partsIn' r
theorem partsIn'_app (r : List Dr) : ∀ a : List Dr, partsIn' (a ++ r) = partsIn' a ++ partsIn' r
  | [] => rfl
  | d :: a => by simp only [List.cons_append, partsIn', partsIn'_app r a, List.append_assoc]
/-- what holds of the elements of a row -/
structure Dr.Good (d : Dr) : Prop where
  other : ∃ t i, d.other = .at t i
  wish : d.wish = d.other ∨ (∃ t v, d.wish = .key t v) ∨ ∃ k, d.wish = .part k
structure RowGood (ds : List Dr) : Prop where
  all : ∀ d ∈ ds, d.Good
  others : (ds.map (·.other)).Nodup
  parts : (partsIn' ds).Nodup
/-- both namings are one, and the names are unlike -/
theorem named_eq : ∀ (ds done : List Dr) (tk : List Nm), RowGood (done ++ ds) → tk.Nodup → (∀ t i, Nm.at t i ∈ tk → Nm.at t i ∈ done.map (·.other)) → (∀ k, Nm.part k ∈ tk → k ∈ partsIn' done) →
    named tk ds = lawNamed tk ds ∧ (tk ++ (lawNamed tk ds).map (·.1)).Nodup
  | [], done, tk, g, nd, h1, h2 => ⟨rfl, by simpa [lawNamed] using nd⟩
  | d :: ds, done, tk, g, nd, h1, h2 => by
    have gd := g.all d (by simp)
    obtain ⟨t, i, ho⟩ := gd.other
    have oth : Nm.at t i ∉ tk := fun h => by
      have h3 := h1 _ _ h
      have h4 := g.others
      rw [List.map_append, List.nodup_append] at h4
      exact h4.2.2 _ h3 d.other (by simp) ho.symm
    have pn : ∀ k, d.wish = .part k → Nm.part k ∉ tk := fun k hk h => by
      have h3 := h2 _ h
      have h4 := g.parts
      rw [partsIn'_app, List.nodup_append] at h4
      exact h4.2.2 _ h3 k (by simp [partsIn', Dr.partOf, hk]) rfl
    have e : (if d.wish ∈ tk then d.other else d.wish) = lawName tk d := by
      unfold lawName
      rcases gd.wish with h | ⟨t', v', h⟩ | ⟨k, h⟩
      · rw [h, ho, if_neg oth]
      · rw [h]
      · rw [h, if_neg (pn k h)]
    have nn : lawName tk d ∉ tk := by
      rw [← e]
      split
      · rw [ho]; exact oth
      · assumption
    have a1 : ∀ t' i', Nm.at t' i' = lawName tk d → Nm.at t' i' = d.other := fun t' i' h => by
      rw [← e] at h
      split at h
      · exact h
      · rcases gd.wish with h5 | ⟨t5, v5, h5⟩ | ⟨k, h5⟩
        · rw [h, h5]
        · rw [h5] at h; cases h
        · rw [h5] at h; cases h
    have a2 : ∀ k, Nm.part k = lawName tk d → d.partOf = [k] := fun k h => by
      rw [← e] at h
      split at h
      · rw [ho] at h; cases h
      · simp only [Dr.partOf, ← h]
    obtain ⟨r1, r2⟩ := named_eq ds (done ++ [d]) (tk ++ [lawName tk d]) (by simpa using g) (by
      rw [List.nodup_append]
      exact ⟨nd, by simp, fun a ha b hb => by rw [List.mem_singleton.mp hb]; exact fun z => nn (z ▸ ha)⟩) (fun t' i' h => by
      rcases List.mem_append.mp h with h | h
      · rw [List.map_append]; exact List.mem_append_left _ (h1 _ _ h)
      · rw [List.map_append]; exact List.mem_append_right _ (by rw [a1 t' i' (List.mem_singleton.mp h)]; simp)) (fun k h => by
      rw [partsIn'_app]
      rcases List.mem_append.mp h with h | h
      · exact List.mem_append_left _ (h2 _ h)
      · exact List.mem_append_right _ (by simp [partsIn', a2 k (List.mem_singleton.mp h)]))
    refine ⟨by simp only [named, lawNamed, e, r1], ?_⟩
    simpa [lawNamed] using r2
/-! ### the rows that are laid out are such -/
mutual
theorem Tp.dis1_at : ∀ (t : Tp) (c : Sc) (addr reps : List Int), ∀ d ∈ t.dis1 c addr reps, (∃ u w, d.other = .at (addr ++ u) (reps ++ w)) ∧ d.Good
  | .when e cs os, c, addr, reps, d, h => by
    simp only [Tp.dis1] at h
    split at h
    · obtain ⟨⟨j, u, w, _, e⟩, g⟩ := Tp.dis_at os c (addr ++ [1]) reps 0 d h
      exact ⟨⟨1 :: (j : Int) :: u, w, by rw [e]; simp⟩, g⟩
    · obtain ⟨⟨j, u, w, _, e⟩, g⟩ := Tp.dis_at cs c (addr ++ [0]) reps 0 d h
      exact ⟨⟨0 :: (j : Int) :: u, w, by rw [e]; simp⟩, g⟩
  | .each e cs, c, addr, reps, d, h => by
    simp only [Tp.dis1, List.mem_flatMap] at h
    obtain ⟨n, _, h⟩ := h
    obtain ⟨⟨j, u, w, _, e⟩, g⟩ := Tp.dis_at cs _ addr (reps ++ [(n : Int)]) 0 d h
    exact ⟨⟨(j : Int) :: u, (n : Int) :: w, by rw [e]; simp⟩, g⟩
  | .text _, c, addr, reps, d, h | .show _, c, addr, reps, d, h | .input _ _, c, addr, reps, d, h => by
    simp only [Tp.dis1, List.mem_singleton] at h
    subst h
    exact ⟨⟨[], [], by simp⟩, ⟨_, _, rfl⟩, .inl rfl⟩
  | .part k, c, addr, reps, d, h => by
    simp only [Tp.dis1, List.mem_singleton] at h
    subst h
    exact ⟨⟨[], [], by simp⟩, ⟨_, _, rfl⟩, .inr (.inr ⟨_, rfl⟩)⟩
  | .box _ key _ _, c, addr, reps, d, h | .child _ key _, c, addr, reps, d, h => by
    simp only [Tp.dis1, List.mem_singleton] at h
    subst h
    refine ⟨⟨[], [], by simp⟩, ⟨_, _, rfl⟩, ?_⟩
    cases key with
    | none => exact .inl rfl
    | some e => exact .inr (.inl ⟨_, _, rfl⟩)
theorem Tp.dis_at : ∀ (ts : List Tp) (c : Sc) (before reps : List Int) (k : Nat), ∀ d ∈ Tp.dis c before reps k ts, (∃ (j : Nat) (u w : List Int), k ≤ j ∧ d.other = .at (before ++ (j : Int) :: u) (reps ++ w)) ∧ d.Good
  | [], c, before, reps, k, d, h => nomatch h
  | t :: ts, c, before, reps, k, d, h => by
    simp only [Tp.dis, List.mem_append] at h
    rcases h with h | h
    · obtain ⟨⟨u, w, e⟩, g⟩ := Tp.dis1_at t c (before ++ [(k : Int)]) reps d h
      exact ⟨⟨k, u, w, Nat.le_refl _, by rw [e]; simp⟩, g⟩
    · obtain ⟨⟨j, u, w, l, e⟩, g⟩ := Tp.dis_at ts c before reps (k + 1) d h
      exact ⟨⟨j, u, w, by omega, e⟩, g⟩
end
theorem nodup_flat {α : Type} {f : Nat → List α} (h1 : ∀ n, (f n).Nodup) (h2 : ∀ n m a, a ∈ f n → a ∈ f m → n = m) : ∀ r : Nat, ((List.range r).flatMap f).Nodup
  | 0 => by simp
  | r + 1 => by
    rw [List.range_succ, List.flatMap_append, List.nodup_append]
    refine ⟨nodup_flat h1 h2 r, by simpa using h1 r, fun a ha b hb z => ?_⟩
    subst z
    obtain ⟨n, hn, ha⟩ := List.mem_flatMap.mp ha
    obtain ⟨m, hm, hb⟩ := List.mem_flatMap.mp hb
    have := h2 n m a ha hb
    rw [List.mem_singleton.mp hm] at this
    have := List.mem_range.mp hn
    omega
theorem map_flat {α β : Type} (g : α → β) (f : Nat → List α) (l : List Nat) : (l.flatMap f).map g = l.flatMap fun n => (f n).map g := by
  rw [List.map_flatMap]
mutual
theorem Tp.dis1_nodup : ∀ (t : Tp) (c : Sc) (addr reps : List Int), ((t.dis1 c addr reps).map (·.other)).Nodup
  | .when e cs os, c, addr, reps => by
    simp only [Tp.dis1]
    split
    · exact Tp.dis_nodup os c (addr ++ [1]) reps 0
    · exact Tp.dis_nodup cs c (addr ++ [0]) reps 0
  | .each e cs, c, addr, reps => by
    simp only [Tp.dis1]
    rw [map_flat]
    refine nodup_flat (fun n => Tp.dis_nodup cs _ addr _ 0) (fun n m a ha hb => ?_) _
    obtain ⟨d, hd, rfl⟩ := List.mem_map.mp ha
    obtain ⟨d', hd', e'⟩ := List.mem_map.mp hb
    obtain ⟨⟨j, u, w, _, e1⟩, _⟩ := Tp.dis_at cs _ addr (reps ++ [(n : Int)]) 0 d hd
    obtain ⟨⟨j', u', w', _, e2⟩, _⟩ := Tp.dis_at cs _ addr (reps ++ [(m : Int)]) 0 d' hd'
    rw [e1, e2] at e'
    simp only [Nm.at.injEq, List.append_assoc, List.cons_append, List.nil_append] at e'
    have h := List.append_cancel_left e'.2
    simp only [List.cons.injEq] at h
    omega
  | .text _, c, addr, reps | .show _, c, addr, reps | .input _ _, c, addr, reps | .part _, c, addr, reps | .box _ _ _ _, c, addr, reps | .child _ _ _, c, addr, reps => by simp [Tp.dis1]
theorem Tp.dis_nodup : ∀ (ts : List Tp) (c : Sc) (before reps : List Int) (k : Nat), ((Tp.dis c before reps k ts).map (·.other)).Nodup
  | [], c, before, reps, k => by simp [Tp.dis]
  | t :: ts, c, before, reps, k => by
    simp only [Tp.dis, List.map_append]
    rw [List.nodup_append]
    refine ⟨Tp.dis1_nodup t c _ reps, Tp.dis_nodup ts c before reps (k + 1), fun a ha b hb z => ?_⟩
    subst z
    obtain ⟨d, hd, rfl⟩ := List.mem_map.mp ha
    obtain ⟨d', hd', e'⟩ := List.mem_map.mp hb
    obtain ⟨⟨u, w, e1⟩, _⟩ := Tp.dis1_at t c (before ++ [(k : Int)]) reps d hd
    obtain ⟨⟨j, u', w', l, e2⟩, _⟩ := Tp.dis_at ts c before reps (k + 1) d' hd'
    rw [e1, e2] at e'
    simp only [Nm.at.injEq, List.append_assoc, List.cons_append, List.nil_append] at e'
    have h := List.append_cancel_left e'.1
    simp only [List.cons.injEq] at h
    omega
end
mutual
theorem Tp.dis1_parts {own last : Nat} : ∀ {free : Bool} (t : Tp) (c : Sc) (addr reps : List Int), t.Ok own last free → List.Sublist (partsIn' (t.dis1 c addr reps)) t.pts
  | _, .when e cs os, c, addr, reps, h => by
    simp only [Tp.dis1]
    have h1 := Tp.dis_parts os c (addr ++ [1]) reps 0 h.2.2
    have h2 := Tp.dis_parts cs c (addr ++ [0]) reps 0 h.2.1
    simp only [Tp.pts]
    split
    · exact h1.trans (List.sublist_append_right _ _)
    · exact h2.trans (List.sublist_append_left _ _)
  | _, .each e cs, c, addr, reps, h => by
    simp only [Tp.dis1]
    have z : ∀ n : Nat, partsIn' (Tp.dis { c with index := (n : Int) } addr (reps ++ [(n : Int)]) 0 cs) = [] := fun n => by
      have h1 := Tp.dis_parts cs { c with index := (n : Int) } addr (reps ++ [(n : Int)]) 0 h.2
      rw [Tp.Oks.noparts (free := false) (by simp) cs h.2] at h1
      exact List.sublist_nil.mp h1
    have zz : ∀ l : List Nat, partsIn' (l.flatMap fun n : Nat => Tp.dis { c with index := (n : Int) } addr (reps ++ [(n : Int)]) 0 cs) = [] := fun l => by
      induction l with
      | nil => rfl
      | cons n l ih => rw [List.flatMap_cons, partsIn'_app, z, ih]; rfl
    rw [zz]
    exact List.nil_sublist _
  | _, .text _, c, addr, reps, h | _, .show _, c, addr, reps, h | _, .input _ _, c, addr, reps, h => by simp [Tp.dis1, partsIn', Dr.partOf, Tp.pts]
  | _, .part k, c, addr, reps, h => by simp [Tp.dis1, partsIn', Dr.partOf, Tp.pts]
  | _, .box _ key _ _, c, addr, reps, h => by
    cases key <;> simp [Tp.dis1, partsIn', Dr.partOf, keyNm]
  | _, .child _ key _, c, addr, reps, h => by
    cases key <;> simp [Tp.dis1, partsIn', Dr.partOf, keyNm]
theorem Tp.dis_parts {own last : Nat} : ∀ {free : Bool} (ts : List Tp) (c : Sc) (before reps : List Int) (k : Nat), Tp.Oks own last free ts → List.Sublist (partsIn' (Tp.dis c before reps k ts)) (Tp.ptss ts)
  | _, [], c, before, reps, k, _ => List.Sublist.refl _
  | _, t :: ts, c, before, reps, k, h => by
    simp only [Tp.dis, Tp.ptss]
    rw [partsIn'_app]
    exact (Tp.dis1_parts t c _ reps h.1).append (Tp.dis_parts ts c before reps (k + 1) h.2)
end
theorem dis_good {own last : Nat} {free : Bool} {ts : List Tp} (c : Sc) (h : Tp.Oks own last free ts) (hp : (Tp.ptss ts).Nodup) : RowGood (Tp.dis c [] [] 0 ts) :=
  ⟨fun d hd => (Tp.dis_at ts c [] [] 0 d hd).2, Tp.dis_nodup ts c [] [] 0, (Tp.dis_parts ts c [] [] 0 h).nodup hp⟩
theorem names_eq {own last : Nat} {free : Bool} {ts : List Tp} (c : Sc) (h : Tp.Oks own last free ts) (hp : (Tp.ptss ts).Nodup) :
    named [] (Tp.dis c [] [] 0 ts) = lawNamed [] (Tp.dis c [] [] 0 ts) ∧ ((lawNamed [] (Tp.dis c [] [] 0 ts)).map (·.1)).Nodup := by
  have := named_eq (Tp.dis c [] [] 0 ts) [] [] (dis_good c h hp) (by simp) (by simp) (by simp)
  simpa using this
end Pw
namespace Pw
open PySem PySem.Spec PyProof.Rows L2
mutual
def T.dat : T → PyData
  | .non => .none | .bl b => .bool b | .int i => .int i | .str s => .str s
  | .tup ts => .tuple (T.dats ts)
def T.dats : List T → List PyData
  | [] => []
  | t :: ts => t.dat :: T.dats ts
end
theorem dats_map : ∀ ts : List T, T.dats ts = ts.map T.dat
  | [] => rfl
  | t :: ts => by rw [T.dats, dats_map ts]; rfl
theorem beq_dec {α : Type} [DecidableEq α] [BEq α] [LawfulBEq α] (a b : α) : (a == b) = decide (a = b) := by
  by_cases h : a = b
  · subst h; simp
  · rw [decide_eq_false h]; simpa using h
mutual
theorem eqv_dat : ∀ a b : T, PyData.eqv a.dat b.dat = decide (a.nk = b.nk)
  | .non, b => by cases b <;> simp [T.dat, T.nk, PyData.eqv]
  | .bl x, b => by
    cases b with
    | bl y => cases x <;> cases y <;> rfl
    | int j => simp only [T.dat, T.nk, PyData.eqv, NestedKey.num.injEq]; exact beq_dec _ _
    | _ => simp [T.dat, T.nk, PyData.eqv]
  | .int i, b => by
    cases b with
    | bl y => simp only [T.dat, T.nk, PyData.eqv, NestedKey.num.injEq]; exact beq_dec _ _
    | int j => simp only [T.dat, T.nk, PyData.eqv, NestedKey.num.injEq]; exact beq_dec _ _
    | _ => simp [T.dat, T.nk, PyData.eqv]
  | .str s, b => by
    cases b with
    | str z => simp only [T.dat, T.nk, PyData.eqv, NestedKey.text.injEq]; exact beq_dec _ _
    | _ => simp [T.dat, T.nk, PyData.eqv]
  | .tup ts, b => by
    cases b with
    | tup us => simp only [T.dat, T.nk, PyData.eqv, eqv_dats ts us, NestedKey.tup.injEq]
    | _ => simp [T.dat, T.nk, PyData.eqv]
theorem eqv_dats : ∀ a b : List T, PyData.eqvAll (T.dats a) (T.dats b) = decide (T.nks a = T.nks b)
  | [], [] => rfl
  | [], _ :: _ => by simp [T.dats, T.nks, PyData.eqvAll]
  | _ :: _, [] => by simp [T.dats, T.nks, PyData.eqvAll]
  | x :: a, y :: b => by
    simp only [T.dats, T.nks, PyData.eqvAll, eqv_dat x y, eqv_dats a b, List.cons.injEq, Bool.decide_and]
end
section
variable {K : PySem.W.Frag} {H : Hp}
theorem dpAll_of {ts : List T} {xs : List V} (p : Paired (Dp K H) xs (ts.map T.dat)) : DpAll K H xs (ts.map T.dat) := by
  generalize ts.map T.dat = ds at p
  induction p with
  | nil => exact .nil
  | cons r _ ih => exact .cons r ih
theorem pair_dp : ∀ {ts : List T} {xs : List V}, xs.length = ts.length → (∀ (i : Nat) (t : T) (x : V), ts[i]? = some t → xs[i]? = some x → Dp K H x t.dat) → DpAll K H xs (T.dats ts)
  | [], [], _, _ => .nil
  | [], _ :: _, l, _ => by cases l
  | _ :: _, [], l, _ => by cases l
  | t :: ts, x :: xs, l, h => .cons (h 0 t x rfl rfl) (pair_dp (Nat.succ.inj l) fun i t' x' e1 e2 => h (i + 1) t' x' e1 e2)
theorem IsT.dp {t : T} {v : V} (h : IsT H t v) : Dp K H v t.dat := by
  induction h with
  | non => exact .non
  | bl b => exact .bl b
  | int i => exact .int i
  | str s => exact .str s
  | tup e l _ ih => exact .tup (SqT.of e) (pair_dp l ih)
theorem paired_dp : ∀ {ts : List T} {xs : List V}, Paired (IsT H) ts xs → DpAll K H xs (T.dats ts)
  | _, _, .nil => .nil
  | _, _, .cons r q => .cons r.dp (paired_dp q)
end
mutual
theorem dep_depth : ∀ {n : Nat} (t : T), Dep n t → t.dat.depth ≤ n
  | _, .non, h => Nat.zero_le _
  | _, .bl _, h => Nat.zero_le _
  | _, .int _, h => Nat.zero_le _
  | _, .str _, h => Nat.zero_le _
  | _, .tup ts, h => by
    cases h with
    | tup n _ _ q =>
      simp only [T.dat, PyData.depth]
      exact Nat.succ_le_succ (deps_depth ts q)
theorem deps_depth : ∀ {n : Nat} (ts : List T), (∀ t ∈ ts, Dep n t) → PyData.depthAll (T.dats ts) ≤ n
  | _, [], _ => Nat.zero_le _
  | n, t :: ts, h => by
    simp only [T.dats, PyData.depthAll]
    exact Nat.max_le.mpr ⟨dep_depth t (h t List.mem_cons_self), deps_depth ts fun u hu => h u (List.mem_cons_of_mem _ hu)⟩
end
mutual
/-- its texts are texts of Python -/
def T.sok : T → Bool
  | .str s => PyData.strOk s
  | .tup ts => T.soks ts
  | _ => true
def T.soks : List T → Bool
  | [] => true
  | t :: ts => t.sok && T.soks ts
end
mutual
theorem can_dat : ∀ t : T, t.sok = true → t.dat.canLay0 = true
  | .non, _ => rfl
  | .bl _, _ => rfl
  | .int _, _ => rfl
  | .str _, h => h
  | .tup ts, h => can_dats ts h
theorem can_dats : ∀ ts : List T, T.soks ts = true → PyData.canLayAll0 (T.dats ts) = true
  | [], _ => rfl
  | t :: ts, h => by
    simp only [T.soks, Bool.and_eq_true] at h
    simp only [T.dats, PyData.canLayAll0, can_dat t h.1, can_dats ts h.2, Bool.and_self]
end
/-- data that == and in may look at -/
structure T.Eqb (t : T) : Prop where
  d : Dep 60 t
  s : t.sok = true
theorem soks_of : ∀ {ts : List T}, (∀ t ∈ ts, t.Eqb) → T.soks ts = true
  | [], _ => rfl
  | t :: ts, h => by simp only [T.soks, (h t List.mem_cons_self).s, soks_of fun u hu => h u (List.mem_cons_of_mem _ hu), Bool.and_self]
theorem shaped_dat {t : T} (h : t.Eqb) : SeqAt.shaped t.dat = true := by
  unfold SeqAt.shaped
  rw [can_dat t h.s, Bool.true_and, decide_eq_true]
  have := dep_depth t h.d
  omega
theorem shaped_list {ts : List T} (h : ∀ t ∈ ts, t.Eqb) : SeqAt.shaped (.list (T.dats ts)) = true := by
  unfold SeqAt.shaped
  have := deps_depth ts fun t ht => (h t ht).d
  rw [decide_eq_true (by simp only [PyData.depth]; omega)]
  simp only [PyData.canLay0, can_dats ts (soks_of h), Bool.and_self]
def rInT (K : PySem.W.Frag) (neg : Bool) : R2 := fun x y H Q => ∃ (t : T) (ts : List T) (a : Addr) (xs : List V), IsT H t x ∧ y = .ref a ∧ SqL K H a xs ∧ Paired (IsT H) ts xs ∧ t.Eqb ∧ (∀ u ∈ ts, u.Eqb) ∧ Q (.bl (if neg then !decide (t.nk ∈ ts.map T.nk) else decide (t.nk ∈ ts.map T.nk))) H
theorem any_dats (t : T) : ∀ ts : List T, ((T.dats ts).any fun z => PyData.eqv z t.dat) = decide (t.nk ∈ ts.map T.nk)
  | [] => by simp [T.dats]
  | u :: ts => by
    rw [T.dats, List.any_cons, any_dats t ts, eqv_dat]
    simp only [List.map_cons, List.mem_cons, Bool.decide_or]
    congr 1
    exact decide_eq_decide.mpr ⟨fun h => h.symm, fun h => h.symm⟩
section
variable {X : Cx}
theorem op_inT (hu : X.A.units + 65 < cLine) : OpR X (compareOp .In) (rInT X.K false) := by
  intro pins s σ H x y v u Q I rx ry h
  obtain ⟨t, ts, a, xs, it, rfl, hs, hp, dt, dts, q⟩ := h
  refine op_inD hu pins s σ H _ _ v u Q I rx ry ⟨_, T.dats ts, it.dp, .lst hs (paired_dp hp), shaped_dat dt, shaped_list dts, ?_⟩
  rw [any_dats]
  exact q
theorem op_notInT (hu : X.A.units + 65 < cLine) : OpR X (compareOp .NotIn) (rInT X.K true) := by
  intro pins s σ H x y v u Q I rx ry h
  obtain ⟨t, ts, a, xs, it, rfl, hs, hp, dt, dts, q⟩ := h
  refine op_notInD hu pins s σ H _ _ v u Q I rx ry ⟨_, T.dats ts, it.dp, .lst hs (paired_dp hp), shaped_dat dt, shaped_list dts, ?_⟩
  rw [any_dats]
  exact q
def rEqT (neg : Bool) : R2 := fun x y H Q => ∃ t u : T, IsT H t x ∧ IsT H u y ∧ t.Eqb ∧ u.Eqb ∧ Q (.bl (if neg then !decide (t.nk = u.nk) else decide (t.nk = u.nk))) H
theorem op_eqT (hu : X.A.units + 65 < cLine) : OpR X (compareOp .Eq) (rEqT false) := by
  intro pins s σ H x y v u Q I rx ry h
  obtain ⟨t, t2, it, it2, dt, dt2, q⟩ := h
  refine op_eqD (by omega) pins s σ H _ _ v u Q I rx ry ⟨_, _, it.dp, it2.dp, shaped_dat dt, shaped_dat dt2, ?_⟩
  rw [eqv_dat]
  exact q
theorem op_neT (hu : X.A.units + 65 < cLine) : OpR X (compareOp .NotEq) (rEqT true) := by
  intro pins s σ H x y v u Q I rx ry h
  obtain ⟨t, t2, it, it2, dt, dt2, q⟩ := h
  refine op_neD (by omega) pins s σ H _ _ v u Q I rx ry ⟨_, _, it.dp, it2.dp, shaped_dat dt, shaped_dat dt2, ?_⟩
  rw [eqv_dat]
  exact q
end
end Pw
namespace Pw
open PySem PySem.Spec PyProof.Rows L2
theorem sl_take {K : PySem.W.Frag} {H : Hp} {a : Addr} {xs : List V} {n : Nat} {Q : VK} (ha : H a = some (.tup xs)) (q : ∀ (c : Addr) (H' : Hp), Oth [] H H' → H' c = some (.tup (xs.take n)) → Q (.ref c) H') : rSlA K (.ref a) none (some (n : Int)) H Q := by
  refine ⟨a, xs, rfl, SqT.of ha, fun h => ?_, fun h p hp => ?_⟩
  · have z := h.2
    rw [HT.sIx_nat] at z
    exact q a H Oth.refl (by rw [List.take_of_length_le (by omega)]; exact ha)
  · refine q p _ (Oth.new hp) ?_
    rw [upd_same]
    unfold cutV
    rw [HT.sIx_none, HT.sIx_nat, List.drop_zero, Nat.sub_zero]
    by_cases c : n ≤ xs.length
    · rw [Nat.min_eq_left c]
    · rw [Nat.min_eq_right (by omega), List.take_of_length_le (Nat.le_refl _), List.take_of_length_le (by omega)]
theorem sl_drop {K : PySem.W.Frag} {H : Hp} {a : Addr} {xs : List V} {n : Nat} {Q : VK} (ha : H a = some (.tup xs)) (hn : n ≤ xs.length) (q : ∀ (c : Addr) (H' : Hp), Oth [] H H' → H' c = some (.tup (xs.drop n)) → Q (.ref c) H') : rSlA K (.ref a) (some (n : Int)) none H Q := by
  refine ⟨a, xs, rfl, SqT.of ha, fun h => ?_, fun h p hp => ?_⟩
  · have z := h.1
    rw [HT.sIx_nat] at z
    have : n = 0 := by omega
    subst this
    exact q a H Oth.refl (by rw [List.drop_zero]; exact ha)
  · refine q p _ (Oth.new hp) ?_
    rw [upd_same]
    unfold cutV
    rw [HT.sIx_none, HT.sIx_nat, Nat.min_eq_left hn]
    rw [List.take_of_length_le (by rw [List.length_drop]; omega)]
theorem paired_take {H : Hp} : ∀ {ts : List T} {xs : List V}, Paired (IsT H) ts xs → ∀ n, Paired (IsT H) (ts.take n) (xs.take n)
  | _, _, .nil, n => by rw [List.take_nil, List.take_nil]; exact .nil
  | _, _, .cons h t, 0 => .nil
  | _, _, .cons h t, n + 1 => .cons h (paired_take t n)
/-- every template is a tuple that begins with its kind -/
def Tp.kind : Tp → Str
  | .text _ => "text" | .show _ => "show" | .box .. => "box" | .when .. => "when" | .each .. => "each" | .child .. => "child" | .part _ => "part" | .input .. => "input"
theorem Tp.kindAt {H : Hp} {v : V} : ∀ (t : Tp), IsT H t.toT v → ∃ a r, v = .ref a ∧ H a = some (.tup (.str t.kind :: r))
  | .text _, h => by obtain ⟨a, _, x, rfl, e, p, _⟩ := IsT.inv2 h; rw [p.of_str] at e; exact ⟨a, _, rfl, e⟩
  | .show _, h => by obtain ⟨a, _, x, rfl, e, p, _⟩ := IsT.inv2 h; rw [p.of_str] at e; exact ⟨a, _, rfl, e⟩
  | .box .., h => by obtain ⟨a, _, x, y, z, u, rfl, e, p, _⟩ := IsT.inv5 h; rw [p.of_str] at e; exact ⟨a, _, rfl, e⟩
  | .when .., h => by obtain ⟨a, _, x, y, z, rfl, e, p, _⟩ := IsT.inv4 h; rw [p.of_str] at e; exact ⟨a, _, rfl, e⟩
  | .each .., h => by obtain ⟨a, _, x, y, rfl, e, p, _⟩ := IsT.inv3 h; rw [p.of_str] at e; exact ⟨a, _, rfl, e⟩
  | .child .., h => by obtain ⟨a, _, x, y, z, rfl, e, p, _⟩ := IsT.inv4 h; rw [p.of_str] at e; exact ⟨a, _, rfl, e⟩
  | .part _, h => by obtain ⟨a, _, x, rfl, e, p, _⟩ := IsT.inv2 h; rw [p.of_str] at e; exact ⟨a, _, rfl, e⟩
  | .input .., h => by obtain ⟨a, _, x, y, rfl, e, p, _⟩ := IsT.inv3 h; rw [p.of_str] at e; exact ⟨a, _, rfl, e⟩
/-- when and each are no nodes -/
def Tp.node : Tp → Bool
  | .when .. => false | .each .. => false | _ => true
theorem Tp.dis1_node (t : Tp) (h : t.node = true) (c : Sc) (addr reps : List Int) : t.dis1 c addr reps = [⟨t.wish c addr reps, .at addr reps, t, c.index⟩] ∧ t.lk1 c = keyLooks c t.key? := by
  cases t <;> first | exact ⟨rfl, rfl⟩ | cases h
def Nm.short : Nm → Prop
  | .at t i => t.length ≤ 1000 ∧ i.length ≤ 1000
  | .key t _ => t.length ≤ 1000
  | .part _ => True
theorem ints_dep {ns : List Int} (h : ns.length ≤ 1000) (n : Nat) : Dep (n + 2) (intsT ns) := by
  refine .tup _ _ (by rw [List.length_map]; omega) fun t ht => ?_
  obtain ⟨i, _, rfl⟩ := List.mem_map.mp ht
  exact .int _ _
theorem Nm.dep {n : Nm} (h : n.short) (k : Nat) : Dep (k + 3) n.toT := by
  cases n with
  | «at» t i => exact .tup _ _ (by simp) (by simp only [List.mem_cons, List.not_mem_nil, or_false, forall_eq_or_imp, forall_eq]; exact ⟨.str _ _, ints_dep h.1 _, ints_dep h.2 _⟩)
  | key t v => exact .tup _ _ (by simp) (by simp only [List.mem_cons, List.not_mem_nil, or_false, forall_eq_or_imp, forall_eq]; exact ⟨.str _ _, ints_dep h _, .int _ _⟩)
  | part k => exact .tup _ _ (by simp) (by simp only [List.mem_cons, List.not_mem_nil, or_false, forall_eq_or_imp, forall_eq]; exact ⟨.str _ _, .int _ _⟩)
theorem ints_sok : ∀ ns : List Int, T.soks (ns.map .int) = true
  | [] => rfl
  | n :: ns => by simp only [List.map_cons, T.soks, ints_sok ns]; rfl
theorem Nm.sok (n : Nm) : n.toT.sok = true := by
  cases n with
  | «at» t i => simp only [Nm.toT, intsT, T.sok, T.soks, ints_sok]; decide +kernel
  | key t v => simp only [Nm.toT, intsT, T.sok, T.soks, ints_sok]; decide +kernel
  | part k => simp only [Nm.toT, T.sok, T.soks]; decide +kernel
theorem Nm.eqb {n : Nm} (h : n.short) : n.toT.Eqb := ⟨n.dep h 57, n.sok⟩
theorem nk_depths_int : ∀ ns : List Int, NestedKey.depthAll (T.nks (ns.map .int)) = 0
  | [] => rfl
  | n :: ns => by simp only [List.map_cons, T.nks, T.nk, NestedKey.depthAll, NestedKey.depth, nk_depths_int ns]; rfl
theorem Nm.nk_depth (n : Nm) : n.toT.nk.depth ≤ 8 := by
  cases n <;> simp [Nm.toT, intsT, T.nk, T.nks, NestedKey.depth, NestedKey.depthAll, nk_depths_int]
theorem ints_nob : ∀ ns : List Int, T.nobs (ns.map T.int) = true
  | [] => rfl
  | n :: ns => by simp only [List.map_cons, T.nobs, T.nob, ints_nob ns, Bool.and_self]
theorem Nm.nob (n : Nm) : n.toT.nob = true := by
  cases n <;> simp [Nm.toT, intsT, T.nob, T.nobs, ints_nob]
theorem Nm.nk_ref {H : Hp} {n : Nm} {v : V} (h : IsT H n.toT v) : ∃ b, v = .ref b ∧ NKey H n.toT.nk b := by
  have z := h
  cases n with
  | «at» t i => obtain ⟨b, xs, rfl, _⟩ := h.inv; exact ⟨b, rfl, _, rfl, z, Nm.nk_depth _, Nm.nob _⟩
  | key t i => obtain ⟨b, xs, rfl, _⟩ := h.inv; exact ⟨b, rfl, _, rfl, z, Nm.nk_depth _, Nm.nob _⟩
  | part t => obtain ⟨b, xs, rfl, _⟩ := h.inv; exact ⟨b, rfl, _, rfl, z, Nm.nk_depth _, Nm.nob _⟩
theorem mem_nks {n : Nm} {tk : List Nm} : (n.toT.nk ∈ (tk.map Nm.toT).map T.nk) ↔ n ∈ tk := by
  rw [List.map_map]
  constructor
  · intro h
    obtain ⟨m, hm, e⟩ := List.mem_map.mp h
    rw [← Nm.nk_inj e]
    exact hm
  · intro h
    exact List.mem_map.mpr ⟨n, h, rfl⟩
def spByKey : Sp := fun vs H Q _ => ∃ (key : Option E) (c : Sc) (addr reps : List Int) (vk vo vc : V) (l : Addr) (L : List V), vs = [vk, vo, vc, .ref l] ∧ IsT H (keyT key) vk ∧ IsT H (Nm.at addr reps).toT vo ∧ IsT H c.toT vc ∧ H l = some (.lst L) ∧
  (∀ e ∈ key, e.depth ≤ 3) ∧ L.length + ksz key ≤ 100000 ∧
  ∀ v H', IsT H' (keyNm c addr reps key).toT v → H' l = some (.lst (L ++ (keyLooks c key).map V.int)) → Oth [l] H H' → Q v H'
def spWished : Sp := fun vs H Q _ => ∃ (t : Tp) (c : Sc) (addr reps : List Int) (vt vo vc : V) (l : Addr) (L : List V), vs = [vt, vo, vc, .ref l] ∧ IsT H t.toT vt ∧ t.node = true ∧ IsT H (Nm.at addr reps).toT vo ∧ IsT H c.toT vc ∧ H l = some (.lst L) ∧
  t.Fine ∧ L.length + t.wt ≤ 100000 ∧
  ∀ v H', IsT H' (t.wish c addr reps).toT v → H' l = some (.lst (L ++ (keyLooks c t.key?).map V.int)) → Oth [l] H H' → Q v H'
def spDis (n : Nat) : Sp := fun vs H Q _ => ∃ (ts : List Tp) (c : Sc) (be re : List Int) (vt vb vr vc : V) (l : Addr) (L : List V), vs = [vt, vb, vr, vc, .ref l] ∧ IsT H (.tup (Tp.toTs ts)) vt ∧ IsT H (intsT be) vb ∧ IsT H (intsT re) vr ∧ IsT H c.toT vc ∧ H l = some (.lst L) ∧
  Tp.deps ts < n ∧ Tp.Fines ts ∧ L.length + Tp.wts ts ≤ 50000 ∧ be.length + 2 * n ≤ 1000 ∧ re.length + n ≤ 1000 ∧
  ∀ (p : Addr) (H' : Hp) (rs : List V), H p = none → H' p = some (.lst rs) → Paired (IsT H') ((Tp.dis c be re 0 ts).map Dr.toT) rs → H' l = some (.lst (L ++ (Tp.lks c ts).map V.int)) → Oth [l] H H' → Q (.ref p) H'
def itemT (x : Nm × Tp × Int) : T := .tup [x.1.toT, x.2.1.toT, .int x.2.2]
def spLayOut (n : Nat) : Sp := fun vs H Q _ => ∃ (ts : List Tp) (c : Sc) (vt vc : V) (l : Addr) (L : List V), vs = [vt, vc, .ref l] ∧ IsT H (.tup (Tp.toTs ts)) vt ∧ IsT H c.toT vc ∧ H l = some (.lst L) ∧
  Tp.deps ts < n ∧ Tp.Fines ts ∧ L.length + Tp.wts ts ≤ 50000 ∧
  ∀ (v : V) (H' : Hp), IsT H' (.tup ((named [] (Tp.dis c [] [] 0 ts)).map itemT)) v → H' l = some (.lst (L ++ (Tp.lks c ts).map V.int)) → Oth [l] H H' → Q v H'
def prefT (ts : List T) : T := .tup ((List.range ts.length).map fun k => .tup (ts.take k))
def spPartsOf : Sp := fun vs H Q _ => ∃ (ts : List T) (v : V), vs = [v] ∧ IsT H (.tup ts) v ∧ ts.length ≤ 1000 ∧
  ∀ r H', IsT H' (prefT ts) r → Oth [] H H' → Q r H'
/-- what is taken stands in the dict -/
def Takes' (kvs : List (NestedKey × V)) (tk : List Nm) : Prop := ∀ n : Nm, (valV kvs n.toT.nk).isSome = decide (n ∈ tk)
theorem Takes'.put {kvs : List (NestedKey × V)} {tk : List Nm} (h : Takes' kvs tk) (n : Nm) (v : V) : Takes' (putK kvs n.toT.nk v) (tk ++ [n]) := fun m => by
  rw [valV_put]
  by_cases e : m.toT.nk = n.toT.nk
  · rw [if_pos e, Nm.nk_inj e]
    simp
  · rw [if_neg e, h m]
    have : m ≠ n := fun z => e (by rw [z])
    simp [this]
end Pw
namespace Pw
open PySem PySem.Spec PyProof.Rows L2
theorem wts_take {ts : List Tp} {i : Nat} {t : Tp} (h : ts[i]? = some t) : Tp.wts (ts.take i) + t.wt ≤ Tp.wts ts := by
  have hi : i < ts.length := (List.getElem?_eq_some_iff.mp h).1
  have e3 : t = ts[i] := by rw [List.getElem?_eq_getElem hi] at h; exact (Option.some.inj h).symm
  have e1 : ts = ts.take i ++ t :: ts.drop (i + 1) := by rw [e3, ← List.drop_eq_getElem_cons hi, List.take_append_drop]
  have e4 := congrArg Tp.wts e1
  rw [wts_app, Tp.wts] at e4
  omega
theorem node_kind {t : Tp} (h : t.node = true) : ("when" : Str) ≠ t.kind ∧ ("each" : Str) ≠ t.kind := by
  cases t <;> first | (exact Bool.noConfusion h) | exact ⟨by simp only [Tp.kind]; decide, by simp only [Tp.kind]; decide⟩
theorem Sc.parts {H : Hp} {c : Sc} {v : V} (h : IsT H c.toT v) : ∃ sc ac ap as, v = .ref sc ∧ H sc = some (.tup [.str "scope", .ref ac, .ref ap, .ref as, .int c.index]) ∧ H ac = some (.tup (c.cells.map V.int)) ∧ H ap = some (.tup (c.props.map V.int)) ∧ H as = some (.tup (c.store.map V.int)) := by
  obtain ⟨sc, _, v1, v2, v3, _, rfl, hsc, r0, r1, r2, r3, r4⟩ := IsT.inv5 h
  obtain rfl := r0.of_str
  obtain rfl := r4.of_int
  obtain ⟨ac, rfl, hac⟩ := r1.ints
  obtain ⟨ap, rfl, hap⟩ := r2.ints
  obtain ⟨as, rfl, has⟩ := r3.ints
  exact ⟨sc, ac, ap, as, rfl, hsc, hac, hap, has⟩
theorem Sc.mk' {H : Hp} {c : Sc} {sc ac ap as : Addr} (hsc : H sc = some (.tup [.str "scope", .ref ac, .ref ap, .ref as, .int c.index])) (hac : H ac = some (.tup (c.cells.map V.int))) (hap : H ap = some (.tup (c.props.map V.int))) (has : H as = some (.tup (c.store.map V.int))) : IsT H c.toT (.ref sc) :=
  .mk5 hsc (.str _) (.mkI hac) (.mkI hap) (.mkI has) (.int _)
theorem flat_succ {α : Type} (f : Nat → List α) (j : Nat) : (List.range (j + 1)).flatMap f = (List.range j).flatMap f ++ f j := by
  rw [List.range_succ, List.flatMap_append]
  simp
theorem dis_take {c : Sc} {be re : List Int} {ts : List Tp} {i : Nat} {t : Tp} (h : ts[i]? = some t) : Tp.dis c be re 0 (ts.take (i + 1)) = Tp.dis c be re 0 (ts.take i) ++ t.dis1 c (be ++ [(i : Int)]) re := by
  have hi : i < ts.length := (List.getElem?_eq_some_iff.mp h).1
  rw [take_snoc h, Tp.dis_app]
  have hl : (ts.take i).length = i := by rw [List.length_take]; omega
  simp only [Tp.dis, List.append_nil, hl, Nat.zero_add]
theorem lks_take {c : Sc} {ts : List Tp} {i : Nat} {t : Tp} (h : ts[i]? = some t) : Tp.lks c (ts.take (i + 1)) = Tp.lks c (ts.take i) ++ t.lk1 c := by
  rw [take_snoc h, Tp.lks_app]
  simp only [Tp.lks, List.append_nil]
theorem take_map {α β : Type} {f : α → β} {l : List α} {i : Nat} {x : β} (h : (l.map f)[i]? = some x) : ∃ u, l[i]? = some u ∧ f u = x := by
  rw [List.getElem?_map] at h
  cases g : l[i]? with
  | none => rw [g] at h; cases h
  | some u => rw [g] at h; exact ⟨u, rfl, Option.some.inj h⟩
theorem ifx {b : Bool} {σ : L2.St} {H : Hp} {Q : VK} {i j : Nat} {v1 v2 : V} (h1 : σ[i]? = some (some v1)) (h2 : σ[j]? = some (some v2)) (q : Q (if b = true then v1 else v2) H) : if b = true then tVar i σ H Q else tVar j σ H Q := by
  cases b with
  | true => exact iteT ⟨_, h1, q⟩
  | false => exact iteF ⟨_, h2, q⟩
theorem named_take {ds : List Dr} {i : Nat} {d : Dr} (h : ds[i]? = some d) : named [] (ds.take (i + 1)) = named [] (ds.take i) ++ [(if d.wish ∈ (named [] (ds.take i)).map (·.1) then d.other else d.wish, d.tp, d.idx)] := by
  rw [take_snoc h, named_app]
  simp [named]
theorem wt_pos (t : Tp) : 1 ≤ t.wt := by cases t <;> simp [Tp.wt]
theorem wts_len : ∀ ts : List Tp, ts.length ≤ Tp.wts ts
  | [] => Nat.le_refl _
  | t :: ts => by have := wt_pos t; have := wts_len ts; simp only [List.length_cons, Tp.wts]; omega
theorem Room.units65 {k : Nat} {A : Around} (r : Room k A) : A.units + 65 < cLine := by have := r.un; omega
end Pw
namespace Pw
open PySem PySem.Spec PyProof.Rows L2
def LItem (H : Hp) (x : Nm × Tp × Int) (v : V) : Prop := ∃ a n r, v = .ref a ∧ H a = some (.lst [n, r, .int x.2.2]) ∧ IsT H x.1.toT n ∧ IsT H x.2.1.toT r
def Fresh (H : Hp) (vs : List V) : Prop := ∀ v ∈ vs, ∃ a, v = .ref a ∧ H a = none
abbrev LItems (H : Hp) : List (Nm × Tp × Int) → List V → Prop := Paired (LItem H)
theorem LItem.oth {H H' : Hp} {S : List Addr} {x : Nm × Tp × Int} {v : V} (h : LItem H x v) (o : Oth S H H') (hn : ∀ a ∈ S, v ≠ .ref a) : LItem H' x v := by
  obtain ⟨a, n, r, rfl, e, i1, i2⟩ := h
  exact ⟨a, n, r, rfl, o.keep a _ (fun z => hn a z rfl) e, i1.oth o, i2.oth o⟩
theorem LItems.oth {H H' : Hp} {S : List Addr} (o : Oth S H H') : ∀ {xs : List (Nm × Tp × Int)} {vs : List V}, LItems H xs vs → (∀ v ∈ vs, ∀ a ∈ S, v ≠ .ref a) → LItems H' xs vs
  | _, _, .nil, _ => .nil
  | _, _, .cons h t, hn => .cons (h.oth o (hn _ List.mem_cons_self)) (LItems.oth o t fun v hv => hn v (List.mem_cons_of_mem _ hv))
theorem LItems.len {H : Hp} : ∀ {xs : List (Nm × Tp × Int)} {vs : List V}, LItems H xs vs → vs.length = xs.length
  | _, _, .nil => rfl
  | _, _, .cons _ t => congrArg (· + 1) (LItems.len t)
theorem LItems.get {H : Hp} : ∀ {xs : List (Nm × Tp × Int)} {vs : List V}, LItems H xs vs → ∀ {i : Nat} {v : V}, vs[i]? = some v → ∃ x, xs[i]? = some x ∧ LItem H x v
  | _, _, .cons h t, 0, v, e => by cases e; exact ⟨_, rfl, h⟩
  | _, _, .cons h t, i + 1, v, e => LItems.get t e
theorem Fresh.ne {H : Hp} {vs : List V} {b : Addr} {o : HO} (h : Fresh H vs) (hb : H b = some o) : ∀ v ∈ vs, v ≠ .ref b := fun v hv z => by
  obtain ⟨a, rfl, e⟩ := h v hv
  cases z
  rw [hb] at e
  cases e
theorem LItems.ne_self {H : Hp} {xs : List (Nm × Tp × Int)} {vs : List V} {r : Addr} {H0 : Hp} (h : LItems H xs vs) (hr : H r = some (.lst vs)) (f : Fresh H0 vs) : ∀ v ∈ vs, v ≠ .ref r := fun v hv z => by
  subst z
  obtain ⟨i, hi, e⟩ := List.getElem_of_mem hv
  obtain ⟨x, _, a, n, q, ea, e2, _⟩ := h.get (List.getElem?_eq_getElem hi |>.trans (by rw [e]))
  cases ea
  rw [hr] at e2
  injection e2 with e2
  injection e2 with e2
  obtain ⟨a, ha, _⟩ := f (.int x.2.2) (by rw [e2]; simp)
  cases ha
theorem names_app (tk : List Nm) (a r : List Dr) : tk ++ (lawNamed tk (a ++ r)).map (·.1) = tk ++ (lawNamed tk a).map (·.1) ++ (lawNamed (tk ++ (lawNamed tk a).map (·.1)) r).map (·.1) := by
  rw [lawNamed_app, List.map_append, List.append_assoc]
structure LSt (H : Hp) (l nl : Addr) (L : List V) (tk : List Nm) (H1 : Hp) (r : Addr) (ds : List Dr) (lk : List Int) : Prop where
  rn : H r = none
  o : Oth [l, nl] H H1
  ex : ∃ rs nL, H1 r = some (.lst rs) ∧ Fresh H rs ∧ LItems H1 (lawNamed tk ds) rs ∧ H1 nl = some (.lst nL) ∧ Paired (IsT H1) ((tk ++ (lawNamed tk ds).map (·.1)).map Nm.toT) nL
  lk : H1 l = some (.lst (L ++ lk.map V.int))
  sh : ∀ n ∈ tk ++ (lawNamed tk ds).map (·.1), n.short
section
variable {H H1 H2 H3 : Hp} {l nl r p q : Addr} {L : List V} {tk : List Nm} {ds ds2 : List Dr} {lk lk2 : List Int}
theorem LSt.ln (s : LSt H l nl L tk H1 r ds lk) (hl : H l ≠ none) : r ≠ l := fun e => hl (e ▸ s.rn)
theorem LSt.nn (s : LSt H l nl L tk H1 r ds lk) (hl : H nl ≠ none) : r ≠ nl := fun e => hl (e ▸ s.rn)
theorem LSt.back (s : LSt H l nl L tk H1 r ds lk) {a : Addr} (h : H1 a = none) : H a = none := by
  obtain ⟨rs, nL, _, _, _, e, _⟩ := s.ex
  cases h' : H a with
  | none => rfl
  | some o =>
    by_cases z : a ∈ [l, nl]
    · simp only [List.mem_cons, List.not_mem_nil, or_false] at z
      rcases z with rfl | rfl
      · rw [s.lk] at h; cases h
      · rw [e] at h; cases h
    · rw [s.o.keep a o z h'] at h; cases h
theorem LSt.oth (s : LSt H l nl L tk H1 r ds lk) (o : Oth [] H1 H2) : LSt H l nl L tk H2 r ds lk := by
  obtain ⟨rs, nL, e1, f, it, e2, pn⟩ := s.ex
  exact ⟨s.rn, s.o.trans (o.mono (by simp)), ⟨rs, nL, o.keep _ _ (by simp) e1, f, it.oth o (by simp), o.keep _ _ (by simp) e2, paired_oth pn o⟩, o.keep _ _ (by simp) s.lk, s.sh⟩
theorem LSt.look (s : LSt H l nl L tk H1 r ds lk) (hl : H l ≠ none) (hne : l ≠ nl) (o : Oth [l] H1 H2) (e : H2 l = some (.lst (L ++ lk.map V.int ++ lk2.map V.int))) : LSt H l nl L tk H2 r ds (lk ++ lk2) := by
  obtain ⟨rs, nL, e1, f, it, e2, pn⟩ := s.ex
  obtain ⟨ol, hol⟩ : ∃ x, H l = some x := by
    cases h : H l with
    | none => exact absurd h hl
    | some x => exact ⟨x, rfl⟩
  exact ⟨s.rn, s.o.trans (o.mono (by simp)), ⟨rs, nL, o.keep _ _ (by simp [s.ln hl]) e1, f, it.oth o (fun v hv a ha => by rw [List.mem_singleton.mp ha]; exact f.ne hol v hv), o.keep _ _ (by simp [hne.symm]) e2, paired_oth pn o⟩, by rw [e, List.map_append, List.append_assoc], s.sh⟩
/-- behind a call for more rows, these added -/
theorem LSt.cat (s : LSt H l nl L tk H1 r ds lk) (hl : H l ≠ none) (hnl : H nl ≠ none) {rs rs2 nL2 : List V} (hr : H1 r = some (.lst rs)) (hfr : Fresh H rs) (hit : LItems H1 (lawNamed tk ds) rs)
    (f2 : Fresh H1 rs2) (it2 : LItems H2 (lawNamed (tk ++ (lawNamed tk ds).map (·.1)) ds2) rs2) (hl2 : H2 l = some (.lst (L ++ lk.map V.int ++ lk2.map V.int)))
    (hnl2 : H2 nl = some (.lst nL2)) (pn2 : Paired (IsT H2) ((tk ++ (lawNamed tk ds).map (·.1) ++ (lawNamed (tk ++ (lawNamed tk ds).map (·.1)) ds2).map (·.1)).map Nm.toT) nL2)
    (sh2 : ∀ n ∈ (lawNamed (tk ++ (lawNamed tk ds).map (·.1)) ds2).map (·.1), n.short) (o : Oth [l, nl] H1 H2) (hq : H2 q = none) :
    LSt H l nl L tk (upd H2 q (.lst (rs ++ rs2))) q (ds ++ ds2) (lk ++ lk2) := by
  have on := Oth.new (S := []) (o := .lst (rs ++ rs2)) hq
  obtain ⟨ol, hol⟩ : ∃ x, H l = some x := by
    cases h : H l with
    | none => exact absurd h hl
    | some x => exact ⟨x, rfl⟩
  obtain ⟨onl, honl⟩ : ∃ x, H nl = some x := by
    cases h : H nl with
    | none => exact absurd h hnl
    | some x => exact ⟨x, rfl⟩
  have hq1 : H1 q = none := by
    cases h : H1 q with
    | none => rfl
    | some x =>
      by_cases z : q ∈ [l, nl]
      · simp only [List.mem_cons, List.not_mem_nil, or_false] at z
        rcases z with rfl | rfl
        · rw [hl2] at hq; cases hq
        · rw [hnl2] at hq; cases hq
      · rw [o.keep q x z h] at hq; cases hq
  have hlq : l ≠ q := ne_of_none hl2 hq
  have hnq : nl ≠ q := ne_of_none hnl2 hq
  refine ⟨s.back hq1, s.o.trans (o.trans (on.mono (by simp))), ⟨rs ++ rs2, nL2, upd_same, ?_, ?_, on.keep _ _ (by simp) hnl2, ?_⟩, ?_, ?_⟩
  · intro v hv
    rcases List.mem_append.mp hv with h | h
    · exact hfr v h
    · obtain ⟨a, rfl, e⟩ := f2 v h
      exact ⟨a, rfl, s.back e⟩
  · rw [lawNamed_app]
    refine Paired.appendP ((hit.oth o fun v hv a ha => ?_).oth on (by simp)) (it2.oth on (by simp))
    simp only [List.mem_cons, List.not_mem_nil, or_false] at ha
    rcases ha with rfl | rfl
    · exact hfr.ne hol v hv
    · exact hfr.ne honl v hv
  · rw [names_app]
    exact paired_oth pn2 on
  · rw [List.map_append, ← List.append_assoc]
    exact on.keep _ _ (by simp) hl2
  · rw [names_app]
    intro n hn
    rcases List.mem_append.mp hn with h | h
    · exact s.sh n h
    · exact sh2 n h
/-- one more -/
theorem LSt.one (s : LSt H l nl L tk H1 r ds lk) (hl : H l ≠ none) (hnl : H nl ≠ none) (hne : l ≠ nl) {rs nL : List V} {d : Dr} {nv rv : V} (hr : H1 r = some (.lst rs)) (hfr : Fresh H rs) (hit : LItems H1 (lawNamed tk ds) rs)
    (hnL : H1 nl = some (.lst nL)) (pn : Paired (IsT H1) ((tk ++ (lawNamed tk ds).map (·.1)).map Nm.toT) nL) (tn : IsT H1 (lawName (tk ++ (lawNamed tk ds).map (·.1)) d).toT nv) (tr : IsT H1 d.tp.toT rv)
    (hs : (lawName (tk ++ (lawNamed tk ds).map (·.1)) d).short)
    (hq : (upd H1 nl (.lst (nL ++ [nv]))) q = none) :
    LSt H l nl L tk (upd (upd (upd H1 nl (.lst (nL ++ [nv]))) q (.lst [nv, rv, .int d.idx])) r (.lst (rs ++ [.ref q]))) r (ds ++ [d]) lk := by
  have o1 : Oth [nl] H1 (upd H1 nl (.lst (nL ++ [nv]))) := Oth.put (by simp) hnL
  have o2 := Oth.new (S := []) (o := .lst [nv, rv, .int d.idx]) hq
  have nrn := s.nn hnl
  have nrl := s.ln hl
  have hr2 : (upd (upd H1 nl (.lst (nL ++ [nv]))) q (.lst [nv, rv, .int d.idx])) r = some (.lst rs) := o2.keep _ _ (by simp) (o1.keep _ _ (by simp [nrn]) hr)
  have o3 : Oth [r] _ (upd (upd (upd H1 nl (.lst (nL ++ [nv]))) q (.lst [nv, rv, .int d.idx])) r (.lst (rs ++ [.ref q]))) := Oth.put (by simp) hr2
  have nqr : q ≠ r := fun e => by
    rw [← e] at hr
    by_cases z : q = nl
    · rw [z, upd_same] at hq; cases hq
    · rw [upd_ne z, hr] at hq; cases hq
  have nqn : nl ≠ q := fun e => by rw [← e, upd_same] at hq; cases hq
  have hq1 : H1 q = none := by rw [upd_ne nqn.symm] at hq; exact hq
  have nql : l ≠ q := ne_of_none s.lk hq1
  obtain ⟨onl, honl⟩ : ∃ x, H nl = some x := by
    cases h : H nl with
    | none => exact absurd h hnl
    | some x => exact ⟨x, rfl⟩
  have self := hit.ne_self hr hfr
  refine ⟨s.rn, ?_, ⟨rs ++ [.ref q], nL ++ [nv], upd_same, ?_, ?_, ?_, ?_⟩, ?_, ?_⟩
  · have z : Oth [l, nl, r] H (upd (upd (upd H1 nl (.lst (nL ++ [nv]))) q (.lst [nv, rv, .int d.idx])) r (.lst (rs ++ [.ref q]))) :=
      (s.o.mono (by simp)).trans ((o1.mono (by simp)).trans ((o2.mono (by simp)).trans (o3.mono (by simp))))
    exact Oth.drop (p := r) (z.mono (by simp)) s.rn
  · intro v hv
    rcases List.mem_append.mp hv with h | h
    · exact hfr v h
    · rw [List.mem_singleton.mp h]
      exact ⟨q, rfl, s.back hq1⟩
  · rw [lawNamed_app]
    refine Paired.appendP (((hit.oth o1 fun v hv a ha => by rw [List.mem_singleton.mp ha]; exact hfr.ne honl v hv).oth o2 (by simp)).oth o3 fun v hv a ha => by rw [List.mem_singleton.mp ha]; exact self v hv) ?_
    exact .cons ⟨q, nv, rv, rfl, o3.keep _ _ (by simp [nqr]) upd_same, ((tn.oth o1).oth o2).oth o3, ((tr.oth o1).oth o2).oth o3⟩ .nil
  · exact o3.keep _ _ (by simp [nrn.symm]) (o2.keep _ _ (by simp) upd_same)
  · rw [names_app, List.map_append]
    exact paired_app (paired_oth (paired_oth (paired_oth pn o1) o2) o3) (.cons (((tn.oth o1).oth o2).oth o3) .nil)
  · exact o3.keep _ _ (by simp [nrl.symm]) (o2.keep _ _ (by simp) (o1.keep _ _ (by simp [hne]) s.lk))
  · rw [names_app]
    intro n hn
    rcases List.mem_append.mp hn with h | h
    · exact s.sh n h
    · simp only [lawNamed, List.map_cons, List.map_nil, List.mem_singleton] at h
      rw [h]
      exact hs
end
def spLawLay (n : Nat) : Sp := fun vs H Q _ => ∃ (ts : List Tp) (c : Sc) (be re : List Int) (tk : List Nm) (vt va vr : V) (s sa sp ss l nl : Addr) (L nL : List V), vs = [vt, .ref s, .ref l, va, vr, .ref nl] ∧ IsT H (.tup (Tp.toTs ts)) vt ∧ IsT H (intsT be) va ∧ IsT H (intsT re) vr ∧
  H s = some (.lst [.ref sa, .ref sp, .ref ss, .int c.index]) ∧ H sa = some (.tup (c.cells.map V.int)) ∧ H sp = some (.tup (c.props.map V.int)) ∧ H ss = some (.tup (c.store.map V.int)) ∧ H l = some (.lst L) ∧ H nl = some (.lst nL) ∧ Paired (IsT H) (tk.map Nm.toT) nL ∧ (∀ n ∈ tk, n.short) ∧
  s ≠ l ∧ s ≠ nl ∧ l ≠ nl ∧ Tp.deps ts < n ∧ Tp.Fines ts ∧ L.length + Tp.wts ts ≤ 50000 ∧ nL.length + Tp.wts ts ≤ 50000 ∧ be.length + 2 * n ≤ 900 ∧ re.length + n ≤ 900 ∧
  ∀ (p : Addr) (H' : Hp) (rs nL' : List V), H p = none → H' p = some (.lst rs) → Fresh H rs → LItems H' (lawNamed tk (Tp.dis c be re 0 ts)) rs → H' l = some (.lst (L ++ (Tp.lks c ts).map V.int)) → H' nl = some (.lst nL') →
    Paired (IsT H') ((tk ++ (lawNamed tk (Tp.dis c be re 0 ts)).map (·.1)).map Nm.toT) nL' → (∀ n ∈ (lawNamed tk (Tp.dis c be re 0 ts)).map (·.1), n.short) → Oth [l, nl] H H' → Q (.ref p) H'
theorem lay_sub {n : Nat} {H H5 : Hp} {l nl r : Addr} {L : List V} {tk : List Nm} {ds : List Dr} {lk : List Int} (st : LSt H l nl L tk H5 r ds lk) (hln : H l ≠ none) (hnn : H nl ≠ none) (nln : l ≠ nl)
    {bs : List Tp} {c : Sc} {be re : List Int} {vb va vr : V} {s sa sp ss : Addr} {Q : VK} {E : XK} (tb : IsT H5 (.tup (Tp.toTs bs)) vb) (ta : IsT H5 (intsT be) va) (tr : IsT H5 (intsT re) vr)
    (esc : H5 s = some (.lst [.ref sa, .ref sp, .ref ss, .int c.index])) (esa : H5 sa = some (.tup (c.cells.map V.int))) (esp : H5 sp = some (.tup (c.props.map V.int))) (ess : H5 ss = some (.tup (c.store.map V.int))) (nsl : s ≠ l) (nsn : s ≠ nl)
    (hd : Tp.deps bs < n) (hf : Tp.Fines bs) (hz : L.length + lk.length + Tp.wts bs ≤ 50000) (hzn : tk.length + ds.length + Tp.wts bs ≤ 50000) (hbe : be.length + 2 * n ≤ 900) (hre : re.length + n ≤ 900)
    (q : ∀ (p : Addr) (H9 : Hp), LSt H l nl L tk H9 p (ds ++ Tp.dis c be re 0 bs) (lk ++ Tp.lks c bs) → Oth [l, nl] H5 H9 → Q (.ref p) H9) :
    spLawLay n [vb, .ref s, .ref l, va, vr, .ref nl] H5 (fun y H7 => rCat (.ref r) y H7 Q) E := by
  obtain ⟨rs, nL, er, fr, it, enl, pn⟩ := st.ex
  have lnL : nL.length = tk.length + ds.length := by rw [(paired_get pn).1, List.length_map, List.length_append, List.length_map, lawNamed_len]
  have lrs : rs.length = ds.length := by rw [it.len, lawNamed_len]
  refine ⟨bs, c, be, re, _, _, _, _, s, sa, sp, ss, l, nl, _, nL, rfl, tb, ta, tr, esc, esa, esp, ess, st.lk, enl, pn, st.sh, nsl, nsn, nln, hd, hf, by rw [List.length_append, List.length_map]; omega, by omega, hbe, hre, fun p H7 rs2 nL2 hp e7 f7 it7 l7 n7 pn7 sh7 o7 => ?_⟩
  have er7 := o7.keep r _ (by simp [st.ln hln, st.nn hnn]) er
  have l2 : rs2.length ≤ Tp.wts bs := by rw [it7.len, lawNamed_len]; exact Tp.dis_len _ _ _ _ _
  refine ⟨r, p, rs, rs2, rfl, rfl, er7, e7, Nat.le_trans (by omega : rs.length + rs2.length ≤ 50000) (by decide), fun p8 hp8 => ?_⟩
  exact q p8 _ (st.cat hln hnn er fr it f7 it7 l7 n7 pn7 sh7 o7 hp8) (o7.trans (Oth.new hp8))
end Pw
namespace Pw
open PySem PySem.Spec PyProof.Rows L2
theorem IsT.nats {H : Hp} {v : V} {ns : List Nat} (h : IsT H (natsT ns) v) : ∃ a, v = .ref a ∧ H a = some (.tup (ns.map natV)) := by
  obtain ⟨a, xs, rfl, e, p⟩ := h.inv
  have : ∀ {ns : List Nat} {xs : List V}, Paired (IsT H) (ns.map natT) xs → xs = ns.map natV := fun {ns} => by
    induction ns with
    | nil => intro xs p; cases p; rfl
    | cons n ns ih =>
      intro xs p
      cases p with
      | cons r q => cases r; rw [ih q]; rfl
  rw [this p] at e
  exact ⟨a, rfl, e⟩
theorem Pq.inv {H : Hp} {v : V} {p : Pq} (h : IsT H p.toT v) : ∃ (a c s q : Addr) (cs : List V), v = .ref a ∧ H a = some (.tup [.str "program", .ref c, .ref s, .ref q]) ∧ H c = some (.tup cs) ∧ Paired (IsT H) (p.comps.map Cq.toT) cs ∧ H s = some (.tup (p.store.map natV)) ∧ H q = some (.tup (p.parts.map natV)) := by
  obtain ⟨a, _, x, y, z, rfl, e, p1, p2, p3, p4⟩ := IsT.inv4 h
  obtain rfl := p1.of_str
  obtain ⟨c, cs, rfl, ec, pc⟩ := p2.inv
  obtain ⟨s, rfl, es⟩ := p3.nats
  obtain ⟨q, rfl, eq⟩ := p4.nats
  exact ⟨a, c, s, q, cs, rfl, e, ec, pc, es, eq⟩
theorem Cq.inv {H : Hp} {v : V} {c : Cq} (h : IsT H c.toT v) : ∃ (a x : Addr) (y z : V), v = .ref a ∧ H a = some (.tup [.str "component", .ref x, y, z]) ∧ H x = some (.tup (c.cells.map natV)) ∧ IsT H (.tup (Tp.toTs c.cs)) y ∧ IsT H (actsT c.acts) z := by
  obtain ⟨a, _, x, y, z, rfl, e, p1, p2, p3, p4⟩ := IsT.inv4 h
  obtain rfl := p1.of_str
  obtain ⟨c, rfl, ec⟩ := p2.nats
  exact ⟨a, c, y, z, rfl, e, ec, p3, p4⟩
def intsOf (ns : List Nat) : List Int := ns.map Int.ofNat
theorem ints_map (ns : List Nat) : (intsOf ns).map V.int = ns.map natV := by unfold intsOf; rw [List.map_map]; rfl
theorem natsT_intsOf (ns : List Nat) : natsT ns = .tup ((intsOf ns).map .int) := by unfold intsOf natsT; rw [List.map_map]; rfl
def spLawY (K : PySem.W.Frag) : Sp := fun vs H Q _ => ∃ (a : Addr) (ns : List Int), vs = [.ref a] ∧ SqL K H a (ns.map V.int) ∧ ns.length ≤ 63 ∧ ∀ H', Q (.bl true) H'
theorem sl_takeL {K : PySem.W.Frag} {H : Hp} {a : Addr} {xs : List V} {n : Nat} {Q : VK} (ha : H a = some (.lst xs)) (q : ∀ (c : Addr) (H' : Hp), H c = none → Oth [] H H' → H' c = some (.lst (xs.take n)) → Q (.ref c) H') : rSlL K (.ref a) none (some (n : Int)) H Q := by
  refine ⟨a, xs, rfl, SqL.of ha, fun p hp => q p _ hp (Oth.new hp) ?_⟩
  rw [upd_same]
  unfold cutV
  rw [HT.sIx_none, HT.sIx_nat, List.drop_zero, Nat.sub_zero]
  by_cases c : n ≤ xs.length
  · rw [Nat.min_eq_left c]
  · rw [Nat.min_eq_right (by omega), List.take_of_length_le (Nat.le_refl _), List.take_of_length_le (by omega)]
theorem nats_eqv (ns : List Int) : PyData.eqv (.list (T.dats (ns.map .int))) (.list (T.dats (ns.map .int))) = true := by
  simp [PyData.eqv, eqv_dats]
theorem ints_shaped (ns : List Int) : SeqAt.shaped (.list (T.dats (ns.map .int))) = true := by
  refine shaped_list fun t ht => ?_
  obtain ⟨i, _, rfl⟩ := List.mem_map.mp ht
  exact ⟨.int _ _, rfl⟩
theorem ne_ints {K : PySem.W.Frag} {H : Hp} {a b : Addr} {ns : List Int} {Q : VK} (ha : H a = some (.lst (ns.map V.int))) (hb : H b = some (.lst (ns.map V.int))) (q : Q (.bl false) H) : rNeD K (.ref a) (.ref b) H Q := by
  refine ⟨_, _, .lst (SqL.of ha) (paired_dp (int_paired ns)), .lst (SqL.of hb) (paired_dp (int_paired ns)), ints_shaped ns, ints_shaped ns, ?_⟩
  rw [nats_eqv]
  exact q
theorem Tp.item_dep {ts : List Tp} {t : Tp} {n : Nm} {i : Int} (hn : n.short) (hd : t.dep ≤ 3) (hf : t.Fine) (hc : t.cnt ≤ 5000) (k : Nat) : Dep (14 + k) (itemT (n, t, i)) := by
  rw [show 14 + k = (13 + k) + 1 by omega]
  refine .tup _ _ (by simp) ?_
  simp only [List.mem_cons, List.not_mem_nil, or_false, forall_eq_or_imp, forall_eq]
  exact ⟨(Nm.dep hn (10 + k)).mono (by omega), (Tp.dep_ok t hf hc).mono (by omega), (Dep.int (12 + k) i).mono (by omega)⟩
mutual
theorem Tp.dis1_tp : ∀ (t : Tp) (c : Sc) (addr reps : List Int), ∀ d ∈ t.dis1 c addr reps, d.tp.dep ≤ t.dep ∧ d.tp.cnt ≤ t.cnt ∧ (t.Fine → d.tp.Fine)
  | .when e cs os, c, addr, reps, d, h => by
    simp only [Tp.dis1] at h
    simp only [Tp.dep, Tp.cnt]
    split at h
    · obtain ⟨a, b, f⟩ := Tp.dis_tp os c _ reps 0 d h
      exact ⟨by omega, by omega, fun q => f q.2.2⟩
    · obtain ⟨a, b, f⟩ := Tp.dis_tp cs c _ reps 0 d h
      exact ⟨by omega, by omega, fun q => f q.2.1⟩
  | .each e cs, c, addr, reps, d, h => by
    simp only [Tp.dis1, List.mem_flatMap] at h
    obtain ⟨n, _, h⟩ := h
    obtain ⟨a, b, f⟩ := Tp.dis_tp cs _ addr _ 0 d h
    simp only [Tp.dep, Tp.cnt]
    exact ⟨by omega, by omega, fun q => f q.2⟩
  | .text _, c, addr, reps, d, h | .show _, c, addr, reps, d, h | .input _ _, c, addr, reps, d, h | .part _, c, addr, reps, d, h | .box _ _ _ _, c, addr, reps, d, h | .child _ _ _, c, addr, reps, d, h => by
    simp only [Tp.dis1, List.mem_singleton] at h
    subst h
    exact ⟨Nat.le_refl _, Nat.le_refl _, id⟩
theorem Tp.dis_tp : ∀ (ts : List Tp) (c : Sc) (before reps : List Int) (k : Nat), ∀ d ∈ Tp.dis c before reps k ts, d.tp.dep ≤ Tp.deps ts ∧ d.tp.cnt ≤ Tp.cnts ts ∧ (Tp.Fines ts → d.tp.Fine)
  | [], c, before, reps, k, d, h => nomatch h
  | t :: ts, c, before, reps, k, d, h => by
    simp only [Tp.dis, List.mem_append] at h
    simp only [Tp.deps, Tp.cnts]
    rcases h with h | h
    · obtain ⟨a, b, f⟩ := Tp.dis1_tp t c _ reps d h
      exact ⟨by omega, by omega, fun q => f q.1⟩
    · obtain ⟨a, b, f⟩ := Tp.dis_tp ts c before reps (k + 1) d h
      exact ⟨by omega, by omega, fun q => f q.2⟩
end
theorem lawNamed_tp : ∀ (ds : List Dr) (tk : List Nm), ∀ x ∈ lawNamed tk ds, ∃ d ∈ ds, x.2.1 = d.tp ∧ x.2.2 = d.idx
  | [], tk, x, h => nomatch h
  | d :: ds, tk, x, h => by
    simp only [lawNamed, List.mem_cons] at h
    rcases h with rfl | h
    · exact ⟨d, by simp, rfl, rfl⟩
    · obtain ⟨d', h1, h2⟩ := lawNamed_tp ds _ x h
      exact ⟨d', by simp [h1], h2⟩
theorem Cq.Ok.ndp {i last parts : Nat} {c : Cq} (h : c.Ok i last parts) : (Tp.ptss c.cs).Nodup := by
  refine h.pts.nodup_iff.mpr ?_
  split
  · exact List.nodup_range
  · exact List.nodup_nil
end Pw
namespace Pw
open PySem PySem.Spec PyProof.Rows L2
abbrev Path := List Nm
def pathT (p : Path) : T := .tup (p.map Nm.toT)
def numS (i : Int) : Str := Str.ofString (toString i)
inductive Nd where
  | text (path : Path) (s : Str)
  | box (path : Path) (tag : Str) (owner : Path) (act : Option Nat) (ns : List Nd)
  | input (path : Path) (tag : Str) (owner : Path) (cell : Nat) (v : Int)
  | child (path : Path) (comp : Nat) (props reads : List Int) (ns : List Nd)
  | place (path : Path) (k : Nat)
mutual
def Nd.toT : Nd → T
  | .text p s => .tup [.str "text", pathT p, .str s]
  | .box p tag o act ns => .tup [.str "box", pathT p, .str tag, pathT o, actT act, .tup (Nd.toTs ns)]
  | .input p tag o c v => .tup [.str "input", pathT p, .str tag, pathT o, .int (c : Int), .int v]
  | .child p c ps rs ns => .tup [.str "child", pathT p, .int (c : Int), intsT ps, intsT rs, .tup (Nd.toTs ns)]
  | .place p k => .tup [.str "place", pathT p, .int (k : Int)]
def Nd.toTs : List Nd → List T
  | [] => []
  | n :: ns => n.toT :: Nd.toTs ns
end
theorem Nd.toTs_map : ∀ ns : List Nd, Nd.toTs ns = ns.map Nd.toT
  | [] => rfl
  | n :: ns => by rw [Nd.toTs, Nd.toTs_map ns]; rfl
/-- what a page is laid out from -/
structure Pc where
  g : Pq
  st : List Int
  cs : List (Path × List Int)
  pres : List Nat
def Pc.comp (X : Pc) (d : Nat) : Cq := X.g.comps.getD d ⟨[], [], []⟩
/-- the last told ones, else the initial ones -/
def Pc.cells (X : Pc) (p : Path) (d : Nat) : List Int := X.cs.foldl (fun acc it => if it.1 = p then it.2 else acc) (intsOf (X.comp d).cells)
def Pc.reads (X : Pc) (lk : List Int) : List Int := ((List.range X.st.length).filter fun k : Nat => decide ((k : Int) ∈ lk)).map Int.ofNat
def Pc.sc (X : Pc) (p : Path) (d : Nat) (props : List Int) : Sc := ⟨X.cells p d, props, X.st, 0⟩
def childOf (X : Pc) (fl : Path → Sc → List Tp → Path → List Nd) (lk : Sc → List Tp → List Int) (p : Path) (d : Nat) (props : List Int) : Nd :=
  .child p d props (X.reads (lk (X.sc p d props) (X.comp d).cs)) (fl p (X.sc p d props) (X.comp d).cs p)
def nodeLk (lk : Sc → List Tp → List Int) (c : Sc) : Tp → List Int
  | .show e => e.looks c
  | .box _ _ _ cs => lk c cs
  | .child _ _ props => props.flatMap (E.looks c)
  | _ => []
/-- all looks while contents are laid out -/
def lkAll : Nat → Sc → List Tp → List Int
  | 0, _, _ => []
  | n + 1, c, ts => Tp.lks c ts ++ (lawNamed [] (Tp.dis c [] [] 0 ts)).flatMap fun it => nodeLk (lkAll n) { c with index := it.2.2 } it.2.1
def nodeOf (X : Pc) (fl : Path → Sc → List Tp → Path → List Nd) (lk : Sc → List Tp → List Int) (o : Path) (c : Sc) (here : Path) : Tp → Nd
  | .text s => .text here s
  | .show e => .text here (numS (e.val c))
  | .box tag _ act cs => .box here tag o act (fl o c cs here)
  | .child d _ props => childOf X fl lk here d (props.map (E.val c))
  | .part k => if k ∈ X.pres then childOf X fl lk here (X.g.parts.getD k 0) [] else .place here k
  | .input tag cell => .input here tag o cell (c.cells.getD cell 0)
  | .when _ _ _ => .place here 0
  | .each _ _ => .place here 0
def fill (X : Pc) : Nat → Path → Sc → List Tp → Path → List Nd
  | 0, _, _, _, _ => []
  | n + 1, o, c, ts, path => (lawNamed [] (Tp.dis c [] [] 0 ts)).map fun it => nodeOf X (fill X n) (lkAll n) o { c with index := it.2.2 } (path ++ [it.1]) it.2.1
def child (X : Pc) (n : Nat) (p : Path) (d : Nat) (props : List Int) : Nd := childOf X (fill X n) (lkAll n) p d props
/-! ### values stay small -/
def Sm (xs : List Int) : Prop := ∀ x ∈ xs, 0 ≤ x ∧ x < 1000
structure Sc.Sm (c : Sc) : Prop where
  cells : Pw.Sm c.cells
  props : Pw.Sm c.props
  store : Pw.Sm c.store
  index : 0 ≤ c.index ∧ c.index < 1000
  few : c.cells.length ≤ 4
theorem Sm.get {xs : List Int} (h : Sm xs) (i : Nat) : 0 ≤ xs.getD i 0 ∧ xs.getD i 0 < 1000 := by
  rw [List.getD_eq_getElem?_getD]
  cases e : xs[i]? with
  | none => exact ⟨by decide, by decide⟩
  | some x => exact h x (List.mem_of_getElem? e)
theorem E.sm {c : Sc} (h : c.Sm) : ∀ e : E, e.Ok → 0 ≤ e.val c ∧ e.val c < 1000
  | .num n, k => k
  | .cell i, _ => h.cells.get i
  | .prop i, _ => h.props.get i
  | .store i, _ => h.store.get i
  | .index, _ => h.index
  | .plus a b, _ => by simp only [E.val]; omega
  | .minus a b, _ => by simp only [E.val]; omega
  | .same a b, _ => by simp only [E.val]; split <;> decide
  | .less a b, _ => by simp only [E.val]; split <;> decide
  | .ite q a b, k => by
    simp only [E.val]
    split
    · exact E.sm h b k.2.2
    · exact E.sm h a k.2.1
theorem Sc.Sm.idx {c : Sc} (h : c.Sm) {i : Int} (hi : 0 ≤ i ∧ i < 1000) : Sc.Sm { c with index := i } := ⟨h.cells, h.props, h.store, hi, h.few⟩
mutual
theorem Tp.dis1_idx : ∀ (t : Tp) (c : Sc) (addr reps : List Int), (0 ≤ c.index ∧ c.index < 1000) → ∀ d ∈ t.dis1 c addr reps, 0 ≤ d.idx ∧ d.idx < 1000
  | .when e cs os, c, addr, reps, hc, d, h => by
    simp only [Tp.dis1] at h
    split at h
    · exact Tp.dis_idx os c _ reps 0 hc d h
    · exact Tp.dis_idx cs c _ reps 0 hc d h
  | .each e cs, c, addr, reps, hc, d, h => by
    simp only [Tp.dis1, List.mem_flatMap] at h
    obtain ⟨n, hn, h⟩ := h
    have := List.mem_range.mp hn
    have := mod6 (e.val c)
    exact Tp.dis_idx cs _ addr _ 0 (by dsimp only; omega) d h
  | .text _, c, addr, reps, hc, d, h | .show _, c, addr, reps, hc, d, h | .input _ _, c, addr, reps, hc, d, h | .part _, c, addr, reps, hc, d, h | .box _ _ _ _, c, addr, reps, hc, d, h | .child _ _ _, c, addr, reps, hc, d, h => by
    simp only [Tp.dis1, List.mem_singleton] at h
    subst h
    exact hc
theorem Tp.dis_idx : ∀ (ts : List Tp) (c : Sc) (before reps : List Int) (k : Nat), (0 ≤ c.index ∧ c.index < 1000) → ∀ d ∈ Tp.dis c before reps k ts, 0 ≤ d.idx ∧ d.idx < 1000
  | [], c, before, reps, k, hc, d, h => nomatch h
  | t :: ts, c, before, reps, k, hc, d, h => by
    simp only [Tp.dis, List.mem_append] at h
    rcases h with h | h
    · exact Tp.dis1_idx t c _ reps hc d h
    · exact Tp.dis_idx ts c before reps (k + 1) hc d h
end
/-! ### what stands in a row -/
mutual
theorem Tp.dis1_ok {own last : Nat} : ∀ {free : Bool} (t : Tp) (c : Sc) (addr reps : List Int), t.Ok own last free → ∀ d ∈ t.dis1 c addr reps, d.tp.node = true ∧ (∃ fr, d.tp.Ok own last fr) ∧ d.tp.dep ≤ t.dep ∧ d.tp.wt ≤ t.wt
  | _, .when e cs os, c, addr, reps, hk, d, h => by
    simp only [Tp.dis1] at h
    simp only [Tp.dep, Tp.wt]
    split at h
    · obtain ⟨a, b, f, z⟩ := Tp.dis_ok os c _ reps 0 hk.2.2 d h
      exact ⟨a, b, by omega, by omega⟩
    · obtain ⟨a, b, f, z⟩ := Tp.dis_ok cs c _ reps 0 hk.2.1 d h
      exact ⟨a, b, by omega, by omega⟩
  | _, .each e cs, c, addr, reps, hk, d, h => by
    simp only [Tp.dis1, List.mem_flatMap] at h
    obtain ⟨n, _, h⟩ := h
    obtain ⟨a, b, f, z⟩ := Tp.dis_ok cs _ addr _ 0 hk.2 d h
    simp only [Tp.dep, Tp.wt]
    exact ⟨a, b, by omega, by omega⟩
  | _, .text _, c, addr, reps, hk, d, h | _, .show _, c, addr, reps, hk, d, h | _, .input _ _, c, addr, reps, hk, d, h | _, .part _, c, addr, reps, hk, d, h | _, .box _ _ _ _, c, addr, reps, hk, d, h | _, .child _ _ _, c, addr, reps, hk, d, h => by
    simp only [Tp.dis1, List.mem_singleton] at h
    subst h
    exact ⟨rfl, ⟨_, hk⟩, Nat.le_refl _, Nat.le_refl _⟩
theorem Tp.dis_ok {own last : Nat} : ∀ {free : Bool} (ts : List Tp) (c : Sc) (before reps : List Int) (k : Nat), Tp.Oks own last free ts → ∀ d ∈ Tp.dis c before reps k ts, d.tp.node = true ∧ (∃ fr, d.tp.Ok own last fr) ∧ d.tp.dep ≤ Tp.deps ts ∧ d.tp.wt ≤ Tp.wts ts
  | _, [], c, before, reps, k, hk, d, h => nomatch h
  | _, t :: ts, c, before, reps, k, hk, d, h => by
    simp only [Tp.dis, List.mem_append] at h
    simp only [Tp.deps, Tp.wts]
    rcases h with h | h
    · obtain ⟨a, b, f, z⟩ := Tp.dis1_ok t c _ reps hk.1 d h
      exact ⟨a, b, by omega, by omega⟩
    · obtain ⟨a, b, f, z⟩ := Tp.dis_ok ts c before reps (k + 1) hk.2 d h
      exact ⟨a, b, by omega, by omega⟩
end
/-! ### how many nodes -/
mutual
def Tp.inst : Tp → Nat
  | .box _ _ _ cs => Tp.insts cs + 1
  | .when _ cs os => Tp.insts cs + Tp.insts os
  | .each _ cs => 5 * Tp.insts cs
  | _ => 1
def Tp.insts : List Tp → Nat
  | [] => 0
  | t :: ts => t.inst + Tp.insts ts
end
mutual
theorem Tp.inst_le0 : ∀ t : Tp, t.ech = 0 → t.inst ≤ t.cnt
  | .box _ _ _ cs, z => by have := Tp.insts_le0 cs z; simp only [Tp.inst, Tp.cnt]; omega
  | .when _ cs os, z => by
    simp only [Tp.ech] at z
    have := Tp.insts_le0 cs (by omega); have := Tp.insts_le0 os (by omega); simp only [Tp.inst, Tp.cnt]; omega
  | .each _ cs, z => by simp [Tp.ech] at z
  | .text _, _ | .show _, _ | .child _ _ _, _ | .part _, _ | .input _ _, _ => by simp [Tp.inst, Tp.cnt]
theorem Tp.insts_le0 : ∀ ts : List Tp, Tp.echs ts = 0 → Tp.insts ts ≤ Tp.cnts ts
  | [], _ => Nat.le_refl _
  | t :: ts, z => by
    simp only [Tp.echs] at z
    have := Tp.inst_le0 t (by omega); have := Tp.insts_le0 ts (by omega); simp only [Tp.insts, Tp.cnts]; omega
end
mutual
theorem Tp.inst_le : ∀ t : Tp, t.ech ≤ 1 → t.inst ≤ 5 * t.cnt
  | .box _ _ _ cs, z => by have := Tp.insts_le cs z; simp only [Tp.inst, Tp.cnt]; omega
  | .when _ cs os, z => by
    simp only [Tp.ech] at z
    have := Tp.insts_le cs (by omega); have := Tp.insts_le os (by omega); simp only [Tp.inst, Tp.cnt]; omega
  | .each _ cs, z => by
    simp only [Tp.ech] at z
    have := Tp.insts_le0 cs (by omega); simp only [Tp.inst, Tp.cnt]; omega
  | .text _, _ | .show _, _ | .child _ _ _, _ | .part _, _ | .input _ _, _ => by simp [Tp.inst, Tp.cnt]
theorem Tp.insts_le : ∀ ts : List Tp, Tp.echs ts ≤ 1 → Tp.insts ts ≤ 5 * Tp.cnts ts
  | [], _ => Nat.le_refl _
  | t :: ts, z => by
    simp only [Tp.echs] at z
    have := Tp.inst_le t (by omega); have := Tp.insts_le ts (by omega); simp only [Tp.insts, Tp.cnts]; omega
end
def sumBy {α : Type} (f : α → Nat) : List α → Nat
  | [] => 0
  | x :: xs => f x + sumBy f xs
theorem sumBy_app {α : Type} (f : α → Nat) (b : List α) : ∀ a : List α, sumBy f (a ++ b) = sumBy f a + sumBy f b
  | [] => by simp [sumBy]
  | x :: a => by simp only [List.cons_append, sumBy, sumBy_app f b a]; omega
theorem sumBy_flat {α : Type} (g : α → Nat) {f : Nat → List α} {m : Nat} (h : ∀ n, sumBy g (f n) ≤ m) : ∀ r : Nat, sumBy g ((List.range r).flatMap f) ≤ r * m
  | 0 => by simp [sumBy]
  | r + 1 => by
    rw [flat_succ, sumBy_app, Nat.succ_mul]
    have := sumBy_flat g h r
    have := h r
    omega
mutual
theorem Tp.dis1_inst : ∀ (t : Tp) (c : Sc) (addr reps : List Int), sumBy (fun d : Dr => d.tp.inst) (t.dis1 c addr reps) ≤ t.inst
  | .when e cs os, c, addr, reps => by
    simp only [Tp.dis1, Tp.inst]
    split
    · have := Tp.dis_inst os c (addr ++ [1]) reps 0; omega
    · have := Tp.dis_inst cs c (addr ++ [0]) reps 0; omega
  | .each e cs, c, addr, reps => by
    simp only [Tp.dis1, Tp.inst]
    have h1 := sumBy_flat (fun d : Dr => d.tp.inst) (f := fun n : Nat => Tp.dis { c with index := (n : Int) } addr (reps ++ [(n : Int)]) 0 cs) (m := Tp.insts cs) (fun n => Tp.dis_inst cs _ _ _ _) ((e.val c) % 6).toNat
    have h2 := Nat.mul_le_mul_right (Tp.insts cs) (mod6 (e.val c))
    omega
  | .text s, c, addr, reps | .show s, c, addr, reps | .box _ _ _ _, c, addr, reps | .child _ _ _, c, addr, reps | .part _, c, addr, reps | .input _ _, c, addr, reps => by simp [Tp.dis1, Tp.inst, sumBy]
theorem Tp.dis_inst : ∀ (ts : List Tp) (c : Sc) (before reps : List Int) (k : Nat), sumBy (fun d : Dr => d.tp.inst) (Tp.dis c before reps k ts) ≤ Tp.insts ts
  | [], c, before, reps, k => Nat.le_refl _
  | t :: ts, c, before, reps, k => by
    simp only [Tp.dis, Tp.insts]
    rw [sumBy_app]
    have := Tp.dis1_inst t c (before ++ [(k : Int)]) reps
    have := Tp.dis_inst ts c before reps (k + 1)
    omega
end
theorem lawNamed_sum (f : Tp → Nat) : ∀ (ds : List Dr) (tk : List Nm), sumBy (fun it : Nm × Tp × Int => f it.2.1) (lawNamed tk ds) = sumBy (fun d : Dr => f d.tp) ds
  | [], tk => rfl
  | d :: ds, tk => by simp only [lawNamed, sumBy, lawNamed_sum f ds]
mutual
def Nd.cnt : Nd → Nat
  | .box _ _ _ _ ns => Nd.cnts ns + 1
  | .child _ _ _ _ ns => Nd.cnts ns + 1
  | _ => 1
def Nd.cnts : List Nd → Nat
  | [] => 0
  | n :: ns => n.cnt + Nd.cnts ns
end
theorem cnts_sum : ∀ ns : List Nd, Nd.cnts ns = sumBy Nd.cnt ns
  | [] => rfl
  | n :: ns => by simp only [Nd.cnts, sumBy, cnts_sum ns]
theorem sumBy_map {α β : Type} (f : β → Nat) (g : α → β) : ∀ l : List α, sumBy f (l.map g) = sumBy (fun x => f (g x)) l
  | [] => rfl
  | x :: l => by simp only [List.map_cons, sumBy, sumBy_map f g l]
theorem sumBy_le {α : Type} {f g : α → Nat} {m : Nat} : ∀ l : List α, (∀ x ∈ l, f x ≤ g x * m) → sumBy f l ≤ sumBy g l * m
  | [], _ => Nat.zero_le _
  | x :: l, h => by
    have h1 := h x List.mem_cons_self
    have h2 := sumBy_le l fun y hy => h y (List.mem_cons_of_mem _ hy)
    simp only [sumBy, Nat.add_mul]
    omega
/-- what a context's program is like -/
structure Pc.Ok (X : Pc) : Prop where
  g : X.g.Ok
  st : Sm X.st
  sl : X.st.length ≤ 2
  cs : ∀ it ∈ X.cs, Sm it.2 ∧ it.2.length ≤ 4
  cl : X.cs.length ≤ 70000
  pres : ∀ k ∈ X.pres, k < X.g.parts.length
  pl : X.pres.length ≤ 2
theorem Pc.Ok.comp {X : Pc} (h : X.Ok) {d : Nat} (hd : d ≤ X.g.comps.length - 1) : (X.comp d).Ok d (X.g.comps.length - 1) X.g.parts.length := by
  have := h.g.ne
  have hl : d < X.g.comps.length := by omega
  have e : X.g.comps[d]? = some X.g.comps[d] := List.getElem?_eq_getElem hl
  have : X.comp d = X.g.comps[d] := by
    unfold Pc.comp
    rw [List.getD_eq_getElem?_getD, e]; rfl
  rw [this]
  exact h.g.comps d _ e
theorem cells_sm {l : List (Path × List Int)} {p : Path} : ∀ {z : List Int}, (∀ it ∈ l, Sm it.2 ∧ it.2.length ≤ 4) → Sm z ∧ z.length ≤ 4 → Sm (l.foldl (fun acc it => if it.1 = p then it.2 else acc) z) ∧ (l.foldl (fun acc it => if it.1 = p then it.2 else acc) z).length ≤ 4 := by
  induction l with
  | nil => intro z _ h; exact h
  | cons it l ih =>
    intro z hl hz
    refine ih (fun x hx => hl x (List.mem_cons_of_mem _ hx)) ?_
    show Sm (if it.1 = p then it.2 else z) ∧ (if it.1 = p then it.2 else z).length ≤ 4
    split
    · exact hl it List.mem_cons_self
    · exact hz
theorem intsOf_sm {ns : List Nat} (h : ∀ n ∈ ns, n < 1000) : Sm (intsOf ns) := by
  intro x hx
  obtain ⟨n, hn, rfl⟩ := List.mem_map.mp hx
  have := h n hn
  exact ⟨Int.natCast_nonneg n, by show (n : Int) < 1000; omega⟩
theorem Pc.Ok.cells {X : Pc} (h : X.Ok) {d : Nat} (hd : d ≤ X.g.comps.length - 1) (p : Path) : Sm (X.cells p d) ∧ (X.cells p d).length ≤ 4 := by
  have c := h.comp hd
  refine cells_sm h.cs ⟨intsOf_sm fun n hn => Nat.lt_trans (c.cells n hn) (by decide), ?_⟩
  unfold intsOf
  rw [List.length_map]
  have := c.cl
  omega
theorem Pc.Ok.sc {X : Pc} (h : X.Ok) {d : Nat} (hd : d ≤ X.g.comps.length - 1) (p : Path) {props : List Int} (hp : Sm props) : (X.sc p d props).Sm :=
  ⟨(h.cells hd p).1, hp, h.st, by show (0 : Int) ≤ 0 ∧ (0 : Int) < 1000; decide, (h.cells hd p).2⟩
/-- how deep what is left may be -/
def rank (last own : Nat) (ts : List Tp) : Nat := Tp.deps ts + 4 * (last - own)
def tot : Nat → Nat
  | 0 => 40
  | j + 1 => 40 * (1 + tot j)
theorem tot_mono : ∀ {a b : Nat}, a ≤ b → tot a ≤ tot b := by
  intro a b h
  induction h with
  | refl => exact Nat.le_refl _
  | step _ ih => simp only [tot]; omega
def below (last own : Nat) : Nat := if own < last then 1 + tot (last - own - 1) else 1
theorem below_pos (last own : Nat) : 1 ≤ below last own := by unfold below; split <;> omega
theorem below_tot (last own : Nat) : 40 * below last own ≤ tot (last - own) := by
  unfold below
  split
  · rename_i h
    obtain ⟨j, hj⟩ : ∃ j, last - own = j + 1 := ⟨last - own - 1, by omega⟩
    rw [hj]
    simp only [tot, Nat.add_sub_cancel]
    omega
  · have := tot_mono (Nat.zero_le (last - own))
    simp only [tot] at this
    omega
theorem fill_cnt {X : Pc} (h : X.Ok) : ∀ (n : Nat) (own : Nat) (free : Bool) (o : Path) (c : Sc) (ts : List Tp) (p : Path), own ≤ X.g.comps.length - 1 → Tp.Oks own (X.g.comps.length - 1) free ts → Nd.cnts (fill X n o c ts p) ≤ Tp.insts ts * below (X.g.comps.length - 1) own
  | 0, _, _, _, _, _, _, _, _ => Nat.zero_le _
  | n + 1, own, free, o, c, ts, p, ho, hk => by
    have kid : ∀ (q : Path) (d : Nat) (props : List Int), own < d → d ≤ X.g.comps.length - 1 → (childOf X (fill X n) (lkAll n) q d props).cnt ≤ below (X.g.comps.length - 1) own := fun q d props h1 h2 => by
      have cd := h.comp h2
      have i1 := fill_cnt h n d true q (X.sc q d props) (X.comp d).cs q h2 cd.oks
      have i2 := Tp.insts_le _ cd.echs
      have i3 := cd.cnts
      have i4 : Tp.insts (X.comp d).cs ≤ 40 := by omega
      have i5 := Nat.mul_le_mul_right (below (X.g.comps.length - 1) d) i4
      have i6 := below_tot (X.g.comps.length - 1) d
      have i7 : tot (X.g.comps.length - 1 - d) ≤ tot (X.g.comps.length - 1 - own - 1) := tot_mono (by omega)
      simp only [childOf, Nd.cnt]
      unfold below
      rw [if_pos (by omega)]
      omega
    simp only [fill]
    rw [cnts_sum, sumBy_map]
    have e := lawNamed_sum Tp.inst (Tp.dis c [] [] 0 ts) []
    have e2 := Tp.dis_inst ts c [] [] 0
    refine Nat.le_trans (sumBy_le (g := fun it : Nm × Tp × Int => it.2.1.inst) (m := below (X.g.comps.length - 1) own) _ fun it hit => ?_) (Nat.mul_le_mul_right _ (by omega))
    obtain ⟨dd, hdd, h1, h2⟩ := lawNamed_tp _ _ it hit
    obtain ⟨a1, ⟨fr, a2⟩, a3, a4⟩ := Tp.dis_ok ts c [] [] 0 hk dd hdd
    rw [← h1] at a1 a2
    have bp := below_pos (X.g.comps.length - 1) own
    generalize it.2.1 = t at a1 a2
    cases t with
    | when _ _ _ => cases a1
    | each _ _ => cases a1
    | text s => simp only [nodeOf, Nd.cnt, Tp.inst]; omega
    | «show» s => simp only [nodeOf, Nd.cnt, Tp.inst]; omega
    | input _ _ => simp only [nodeOf, Nd.cnt, Tp.inst]; omega
    | box tag key act cs =>
      simp only [nodeOf, Nd.cnt, Tp.inst]
      have := fill_cnt h n own fr o { c with index := it.2.2 } cs (p ++ [it.1]) ho a2.2.2.2
      rw [Nat.add_mul]
      omega
    | child d key props =>
      simp only [nodeOf, Tp.inst, Nat.one_mul]
      exact kid _ d _ a2.1 a2.2.1
    | part k =>
      simp only [nodeOf, Tp.inst, Nat.one_mul]
      split
      · rename_i hin
        have hk := h.pres k hin
        have hp := h.g.parts _ (List.getElem_mem hk)
        have e3 : X.g.parts.getD k 0 = X.g.parts[k] := by rw [List.getD_eq_getElem?_getD, List.getElem?_eq_getElem hk]; rfl
        rw [e3]
        exact kid _ _ _ (by rw [a2.1]; exact hp.1) (by omega)
      · exact bp
end Pw
namespace Pw
open PySem PySem.Spec PyProof.Rows L2
theorem bo_min : bootBuiltins "min" = some (.builtin "min") := by decide +kernel
theorem sumBy_take {α : Type} (f : α → Nat) {l : List α} {j : Nat} {x : α} (h : l[j]? = some x) : sumBy f (l.take j) + f x ≤ sumBy f l := by
  have hi : j < l.length := (List.getElem?_eq_some_iff.mp h).1
  have e3 : x = l[j] := by rw [List.getElem?_eq_getElem hi] at h; exact (Option.some.inj h).symm
  have e1 : l = l.take j ++ x :: l.drop (j + 1) := by rw [e3, ← List.drop_eq_getElem_cons hi, List.take_append_drop]
  have e4 := congrArg (sumBy f) e1
  rw [sumBy_app, sumBy] at e4
  omega
theorem len_flat {α β : Type} (f : α → List β) : ∀ l : List α, (l.flatMap f).length = sumBy (fun x => (f x).length) l
  | [] => rfl
  | x :: l => by rw [List.flatMap_cons, List.length_append, len_flat f l]; rfl
mutual
theorem Tp.dis1_wt : ∀ (t : Tp) (c : Sc) (addr reps : List Int), sumBy (fun d : Dr => d.tp.wt) (t.dis1 c addr reps) ≤ t.wt
  | .when e cs os, c, addr, reps => by
    simp only [Tp.dis1, Tp.wt]
    split
    · have := Tp.dis_wt os c (addr ++ [1]) reps 0; omega
    · have := Tp.dis_wt cs c (addr ++ [0]) reps 0; omega
  | .each e cs, c, addr, reps => by
    simp only [Tp.dis1, Tp.wt]
    have h1 := sumBy_flat (fun d : Dr => d.tp.wt) (f := fun n : Nat => Tp.dis { c with index := (n : Int) } addr (reps ++ [(n : Int)]) 0 cs) (m := Tp.wts cs) (fun n => Tp.dis_wt cs _ _ _ _) ((e.val c) % 6).toNat
    have h2 := Nat.mul_le_mul_right (Tp.wts cs) (mod6 (e.val c))
    omega
  | .text s, c, addr, reps | .show s, c, addr, reps | .box _ _ _ _, c, addr, reps | .child _ _ _, c, addr, reps | .part _, c, addr, reps | .input _ _, c, addr, reps => by simp [Tp.dis1, Tp.wt, sumBy]
theorem Tp.dis_wt : ∀ (ts : List Tp) (c : Sc) (before reps : List Int) (k : Nat), sumBy (fun d : Dr => d.tp.wt) (Tp.dis c before reps k ts) ≤ Tp.wts ts
  | [], c, before, reps, k => Nat.le_refl _
  | t :: ts, c, before, reps, k => by
    simp only [Tp.dis, Tp.wts]
    rw [sumBy_app]
    have := Tp.dis1_wt t c (before ++ [(k : Int)]) reps
    have := Tp.dis_wt ts c before reps (k + 1)
    omega
end
theorem props_len (c : Sc) : ∀ ps : List E, (ps.flatMap (E.looks c)).length ≤ psz ps
  | [] => Nat.le_refl _
  | e :: ps => by
    rw [List.flatMap_cons, List.length_append]
    have := e.looks_le c
    have := props_len c ps
    simp only [psz]
    omega
theorem lk_len : ∀ (n : Nat) (c : Sc) (ts : List Tp), (lkAll n c ts).length ≤ (Tp.deps ts + 2) * Tp.wts ts ∧ ∀ (D : Nat) (t : Tp) (c' : Sc), t.dep ≤ D → (nodeLk (lkAll n) c' t).length ≤ t.wt * (D + 1)
  | n, c, ts => by
    have node : (∀ (c : Sc) (ts : List Tp), (lkAll n c ts).length ≤ (Tp.deps ts + 2) * Tp.wts ts) → ∀ (D : Nat) (t : Tp) (c' : Sc), t.dep ≤ D → (nodeLk (lkAll n) c' t).length ≤ t.wt * (D + 1) := fun ih D t c' hd => by
      cases t with
      | box tag key act cs =>
        simp only [nodeLk, Tp.wt, Tp.dep] at hd ⊢
        have h1 := ih c' cs
        have h2 : (Tp.deps cs + 2) * Tp.wts cs ≤ (D + 1) * Tp.wts cs := Nat.mul_le_mul_right _ (by omega)
        rw [Nat.add_mul, Nat.add_mul, Nat.mul_comm (Tp.wts cs)]
        omega
      | «show» e =>
        simp only [nodeLk, Tp.wt]
        have := e.looks_le c'
        have := Nat.le_mul_of_pos_right (e.size + 1) (show 0 < D + 1 by omega)
        omega
      | child d key props =>
        simp only [nodeLk, Tp.wt]
        have := props_len c' props
        have := Nat.le_mul_of_pos_right (ksz key + psz props + 1) (show 0 < D + 1 by omega)
        omega
      | _ => simp [nodeLk]
    have all : ∀ (c : Sc) (ts : List Tp), (lkAll n c ts).length ≤ (Tp.deps ts + 2) * Tp.wts ts := by
      cases n with
      | zero => intro c ts; simp [lkAll]
      | succ n =>
        intro c ts
        simp only [lkAll, List.length_append, len_flat]
        have h1 := Tp.lks_len ts c
        have h2 := sumBy_le (f := fun it : Nm × Tp × Int => (nodeLk (lkAll n) { c with index := it.2.2 } it.2.1).length) (g := fun it => it.2.1.wt) (m := Tp.deps ts + 1) (lawNamed [] (Tp.dis c [] [] 0 ts)) fun it hit => by
          obtain ⟨dd, hdd, e1, e2⟩ := lawNamed_tp _ _ it hit
          obtain ⟨a1, a2, a3⟩ := Tp.dis_tp ts c [] [] 0 dd hdd
          exact (lk_len n c ts).2 (Tp.deps ts) it.2.1 _ (by rw [e1]; exact a1)
        have h3 := lawNamed_sum Tp.wt (Tp.dis c [] [] 0 ts) []
        have h4 := Tp.dis_wt ts c [] [] 0
        have h5 : sumBy (fun it : Nm × Tp × Int => it.2.1.wt) (lawNamed [] (Tp.dis c [] [] 0 ts)) * (Tp.deps ts + 1) ≤ Tp.wts ts * (Tp.deps ts + 1) := Nat.mul_le_mul_right _ (by omega)
        rw [show Tp.deps ts + 2 = 1 + (Tp.deps ts + 1) by omega, Nat.add_mul, Nat.one_mul, Nat.mul_comm (Tp.deps ts + 1)]
        omega
    exact ⟨all c ts, node all⟩
/-! ### paths -/
structure PathOk (p : Path) : Prop where
  sh : ∀ n ∈ p, n.short
  len : p.length ≤ 500
theorem PathOk.dep {p : Path} (h : PathOk p) (k : Nat) : Dep (k + 4) (pathT p) := by
  refine .tup _ _ (by rw [List.length_map]; have := h.len; omega) fun t ht => ?_
  obtain ⟨n, hn, rfl⟩ := List.mem_map.mp ht
  exact Nm.dep (h.sh n hn) k
theorem path_sok : ∀ p : Path, T.soks (p.map Nm.toT) = true
  | [] => rfl
  | n :: p => by simp only [List.map_cons, T.soks, Nm.sok, path_sok p, Bool.and_self]
theorem PathOk.eqb {p : Path} (h : PathOk p) : (pathT p).Eqb := ⟨h.dep 56, path_sok p⟩
theorem nks_path : ∀ {p q : Path}, T.nks (p.map Nm.toT) = T.nks (q.map Nm.toT) → p = q
  | [], [], _ => rfl
  | [], _ :: _, h => by simp [T.nks] at h
  | _ :: _, [], h => by simp [T.nks] at h
  | a :: p, b :: q, h => by
    simp only [List.map_cons, T.nks, List.cons.injEq] at h
    rw [Nm.nk_inj h.1, nks_path h.2]
theorem path_nk {p q : Path} : (pathT p).nk = (pathT q).nk ↔ p = q := by
  constructor
  · intro h
    simp only [pathT, T.nk, NestedKey.tup.injEq] at h
    exact nks_path h
  · intro h; rw [h]
theorem PathOk.snoc {p : Path} {n : Nm} (h : PathOk p) (hn : n.short) (hl : p.length < 500) : PathOk (p ++ [n]) :=
  ⟨fun m hm => (List.mem_append.mp hm).elim (h.sh m) (fun z => by rw [List.mem_singleton.mp z]; exact hn), by simp; omega⟩
theorem PathOk.nil : PathOk [] := ⟨by simp, by simp⟩
def cellsT (cs : List (Path × List Int)) : T := .tup (cs.map fun it => .tup [pathT it.1, intsT it.2])
structure About (H : Hp) (ab : Addr) (X : Pc) : Prop where
  ex : ∃ vp vs vc vr, H ab = some (.lst [vp, vs, vc, vr]) ∧ IsT H X.g.toT vp ∧ IsT H (intsT X.st) vs ∧ IsT H (cellsT X.cs) vc ∧ IsT H (natsT X.pres) vr
theorem About.oth {H H' : Hp} {S : List Addr} {ab : Addr} {X : Pc} (h : About H ab X) (o : Oth S H H') (n : ab ∉ S) : About H' ab X := by
  obtain ⟨vp, vs, vc, vr, e, a, b, c, d⟩ := h.ex
  exact ⟨vp, vs, vc, vr, o.keep _ _ n e, a.oth o, b.oth o, c.oth o, d.oth o⟩
theorem About.ne {H : Hp} {ab p : Addr} {X : Pc} (h : About H ab X) (n : H p = none) : ab ≠ p := let ⟨_, _, _, _, e, _⟩ := h.ex; ne_of_none e n
/-- the context and the paths of its cells -/
structure Pc.Good (X : Pc) : Prop extends Pc.Ok X where
  paths : ∀ it ∈ X.cs, PathOk it.1
def spLawFill (n : Nat) : Sp := fun vs H Q _ => ∃ (X : Pc) (own : Nat) (free : Bool) (o p : Path) (c : Sc) (ts : List Tp) (vo vt vp : V) (ab s sa sp ss l : Addr) (L : List V), vs = [.ref ab, vo, .ref s, .ref l, vt, vp] ∧ About H ab X ∧ X.Good ∧ IsT H (pathT o) vo ∧
  H s = some (.lst [.ref sa, .ref sp, .ref ss, .int c.index]) ∧ H sa = some (.tup (c.cells.map V.int)) ∧ H sp = some (.tup (c.props.map V.int)) ∧ H ss = some (.tup (c.store.map V.int)) ∧ H l = some (.lst L) ∧ IsT H (.tup (Tp.toTs ts)) vt ∧ IsT H (pathT p) vp ∧
  c.Sm ∧ own ≤ X.g.comps.length - 1 ∧ Tp.Oks own (X.g.comps.length - 1) free ts ∧ Tp.wts ts ≤ 600 ∧ Tp.deps ts ≤ 3 ∧ rank (X.g.comps.length - 1) own ts < n ∧ L.length + (Tp.deps ts + 2) * Tp.wts ts ≤ 40000 ∧ ab ≠ l ∧ s ≠ l ∧ PathOk p ∧ p.length + n ≤ 400 ∧
  ∀ v H', IsT H' (.tup (Nd.toTs (fill X n o c ts p))) v → H' l = some (.lst (L ++ (lkAll n c ts).map V.int)) → Oth [l] H H' → Q v H'
def spLawChild (n : Nat) : Sp := fun vs H Q _ => ∃ (X : Pc) (d : Nat) (p : Path) (props : List Int) (vp vq : V) (ab : Addr), vs = [.ref ab, vp, .int (d : Int), vq] ∧ About H ab X ∧ X.Good ∧ IsT H (pathT p) vp ∧ IsT H (intsT props) vq ∧
  d ≤ X.g.comps.length - 1 ∧ Sm props ∧ 3 + 4 * (X.g.comps.length - 1 - d) < n ∧ PathOk p ∧ p.length + n ≤ 400 ∧
  ∀ v H', IsT H' (child X n p d props).toT v → Oth [] H H' → Q v H'
theorem flatN : ∀ ns : List Nat, (ns.map natV).all flatV = true
  | [] => rfl
  | n :: ns => by rw [List.map_cons, List.all_cons, flatN ns]; rfl
theorem inVn (k : Nat) : ∀ ns : List Nat, inV (V.int (k : Int)) (ns.map natV) = decide (k ∈ ns)
  | [] => by simp [inV]
  | n :: ns => by
    have ih := inVn k ns
    unfold inV at ih ⊢
    rw [List.map_cons, List.any_cons, ih]
    have : eqV (natV n) (V.int (k : Int)) = decide (k = n) := by
      show decide ((n : Int) = (k : Int)) = _
      exact decide_eq_decide.mpr (by omega)
    rw [this]
    simp only [List.mem_cons, Bool.decide_or]
theorem flatI : ∀ ns : List Int, (ns.map V.int).all flatV = true
  | [] => rfl
  | n :: ns => by rw [List.map_cons, List.all_cons, flatI ns]; rfl
theorem inVi (k : Int) : ∀ ns : List Int, inV (V.int k) (ns.map V.int) = decide (k ∈ ns)
  | [] => by simp [inV]
  | n :: ns => by
    have ih := inVi k ns
    unfold inV at ih ⊢
    rw [List.map_cons, List.any_cons, ih]
    have : eqV (V.int n) (V.int k) = decide (k = n) := by
      show (n == k) = _
      rw [beq_dec]
      exact decide_eq_decide.mpr ⟨Eq.symm, Eq.symm⟩
    rw [this]
    simp only [List.mem_cons, Bool.decide_or]
theorem at_cell {cs : List Int} {cell : Nat} : atI (cs.map V.int ++ [V.int 0]) (if (((cs.map V.int).length : Nat) : Int) < (cell : Int) then (((cs.map V.int).length : Nat) : Int) else (cell : Int)) = some (.int (cs.getD cell 0)) := by
  by_cases h : cell < cs.length
  · rw [if_neg (by rw [List.length_map]; omega)]
    refine atI_nat ?_
    rw [List.getElem?_append_left (by rw [List.length_map]; exact h), List.getElem?_map, List.getElem?_eq_getElem h, List.getD_eq_getElem?_getD, List.getElem?_eq_getElem h]
    rfl
  · have e : (if (((cs.map V.int).length : Nat) : Int) < (cell : Int) then (((cs.map V.int).length : Nat) : Int) else (cell : Int)) = ((cs.length : Nat) : Int) := by
      rw [List.length_map]; split <;> omega
    rw [e]
    refine atI_nat ?_
    rw [List.getElem?_append_right (by rw [List.length_map]; omega), List.length_map, Nat.sub_self, getD_out h]
    rfl
theorem natAbs_log {x : Int} (h : 0 ≤ x ∧ x < 1000) : x.natAbs.log2 < 1920 := by
  by_cases z : x.natAbs = 0
  · rw [z]; decide
  · exact Nat.lt_trans ((Nat.log2_lt z).mpr (show x.natAbs < 2 ^ 10 by omega)) (by decide)
end Pw
namespace Pw
open PySem PySem.Spec PyProof.Rows L2 PySem.AutoSeq1 PySem.Calls
theorem extend_tup (D : Addr) (us : Array Value) (m : Nat) (t : Addr) (ws : Array Value) (m2 : Nat) (dd : Option Addr) (ss : Array (Option Value)) (long : ¬ (!us.isEmpty && Builtin.List.listTooLong (us.size + ws.size)) = true) (fits : us.size ≤ sizeLine) (both : us.size + ws.size ≤ sizeLine + 1) :
    Meets (Builtin.«list.extend» ⟨[.ref D, .ref t], []⟩) (fun _ R s => s.heap.get? D = some { cls := .type "list", dict := none, data := .seq us m, slots := #[] } ∧
      s.heap.get? t = some { cls := .type "tuple", dict := dd, data := .seq ws m2, slots := ss } ∧
      R (.ok (.ret Value.none)) { s with heap := s.heap.update D (Obj.mapSeq fun x => x ++ ws), toks := s.toks }) :=
  .of_wp fun prog w A R s h => by
    obtain ⟨hp, gs, dr, tk, os⟩ := s
    obtain ⟨hD, ht, hq⟩ := h
    have a1 := AutoSeq1.idx_int
    have a2 := AutoSeq1.sub_tuple_tuple
    have a3 := AutoSeq1.sub_list_list
    have a4 := AutoSeq1.sub_tuple_list
    have a5 := AutoSeq1.sub_list_tuple
    have fit2 : (us ++ ws).size ≤ sizeLine + 1 := by
      rw [Array.size_append]; exact both
    wp_walk using (wpAny_updateSeq hD rfl (hz := fits) (_hz' := fit2)), AutoSeq1.wpAny_loadPart' hD, AutoSeq1.wpAny_loadPart' ht
    exact ⟨_, rfl, hq⟩
def rExtT (K : PySem.W.Frag) : V → List V → Hp → VK → Prop := fun x vs H Q =>
  ∃ (l b : Addr) (xs zs : List V), x = .ref l ∧ vs = [.ref b] ∧ H l = some (.lst xs) ∧ H b = some (.tup zs) ∧ xs.length + zs.length ≤ 500000 ∧ Q .non (upd H l (.lst (xs ++ zs)))
theorem mt_extT {X : Cx} : MtR X "list.extend" (rExtT X.K) := by
  intro pins s σ H x vs v us Q I rx rvs hw
  obtain ⟨l, b, xs, zs, ex, evs, hl, hb, hs, q⟩ := hw
  subst ex
  subst evs
  cases rx
  obtain ⟨ub, eub, rub⟩ := rvs.one
  subst eub
  cases rub
  obtain ⟨zl, il, nl, rl, sl, gl⟩ := I.lstM hl
  obtain ⟨ib, rb, tb, zb⟩ := I.tuple (SqT.of hb)
  obtain ⟨ob, hob, cb, nb, db⟩ := tb
  obtain ⟨c1, d1, dat1, s1⟩ := ob
  simp only at cb db
  subst cb
  subst db
  have lxs := rl.length
  have lzs := rb.length
  have sline : (500000 : Nat) ≤ sizeLine := by decide
  have small : il.toArray.size + ib.toArray.size ≤ sizeLine := by simp only [List.size_toArray]; omega
  have nolong : ¬ (!il.toArray.isEmpty && Builtin.List.listTooLong (il.toArray.size + ib.toArray.size)) = true := by
    rw [notLongL small, Bool.and_false]; exact fun z => Bool.noConfusion z
  refine call_meets F.slot_list_extend ⟨_, gl, rfl⟩ F.entry_list_extend (F.args_list_extend_2 _ _) (extend_tup l il.toArray nl b ib.toArray nb d1 s1 nolong (by omega) (by omega)) ⟨gl, hob, ?_⟩
  exact ⟨.non, _, I.lset (its' := il ++ ib) hl gl (by simp) (rl.append rb) (by rw [List.length_append]; omega), rfl, q⟩
end Pw
namespace Pw
open PySem PySem.Spec PyProof.Rows L2
theorem bo_list : bootBuiltins "list" = some (.type "list") := by decide +kernel
mutual
def Nd.sh1 : Nd → List Nd
  | .text p s => [.text p s]
  | .box p t o a ns => [.box p t o a (Nd.shs ns)]
  | .input p t o c v => [.input p t o c v]
  | .child _ _ _ _ ns => Nd.shs ns
  | .place _ _ => []
def Nd.shs : List Nd → List Nd
  | [] => []
  | n :: ns => n.sh1 ++ Nd.shs ns
end
def Nd.path : Nd → Path
  | .text p _ | .box p _ _ _ _ | .input p _ _ _ _ | .child p _ _ _ _ | .place p _ => p
mutual
def Nd.fl1 : Nd → List Nd
  | .box p t o a ns => .box p t o a ns :: Nd.fls ns
  | n => [n]
/-- shown nodes with all in them -/
def Nd.fls : List Nd → List Nd
  | [] => []
  | n :: ns => n.fl1 ++ Nd.fls ns
end
mutual
def Nd.ht : Nd → Nat
  | .box _ _ _ _ ns => Nd.hts ns + 1
  | .child _ _ _ _ ns => Nd.hts ns + 1
  | _ => 0
def Nd.hts : List Nd → Nat
  | [] => 0
  | n :: ns => max n.ht (Nd.hts ns)
end
mutual
/-- all paths in it are paths -/
def Nd.Pok : Nd → Prop
  | .text p _ => PathOk p
  | .box p _ o _ ns => PathOk p ∧ PathOk o ∧ Nd.Poks ns
  | .input p _ o _ _ => PathOk p ∧ PathOk o
  | .child p _ _ _ ns => PathOk p ∧ Nd.Poks ns
  | .place p _ => PathOk p
def Nd.Poks : List Nd → Prop
  | [] => True
  | n :: ns => n.Pok ∧ Nd.Poks ns
end
mutual
/-- children and places are not shown -/
def Nd.Shn : Nd → Prop
  | .box _ _ _ _ ns => Nd.Shns ns
  | .child _ _ _ _ _ => False
  | .place _ _ => False
  | _ => True
def Nd.Shns : List Nd → Prop
  | [] => True
  | n :: ns => n.Shn ∧ Nd.Shns ns
end
theorem poks_app {b : List Nd} (hb : Nd.Poks b) : ∀ {a : List Nd}, Nd.Poks a → Nd.Poks (a ++ b)
  | [], _ => hb
  | _ :: a, h => ⟨h.1, poks_app hb h.2⟩
theorem shns_app {b : List Nd} (hb : Nd.Shns b) : ∀ {a : List Nd}, Nd.Shns a → Nd.Shns (a ++ b)
  | [], _ => hb
  | _ :: a, h => ⟨h.1, shns_app hb h.2⟩
theorem poks_mem : ∀ {a : List Nd}, Nd.Poks a → ∀ n ∈ a, n.Pok
  | _ :: a, h, n, hn => by
    rcases List.mem_cons.mp hn with rfl | hn
    · exact h.1
    · exact poks_mem h.2 n hn
theorem shns_mem : ∀ {a : List Nd}, Nd.Shns a → ∀ n ∈ a, n.Shn
  | _ :: a, h, n, hn => by
    rcases List.mem_cons.mp hn with rfl | hn
    · exact h.1
    · exact shns_mem h.2 n hn
theorem hts_mem {n : Nd} : ∀ {a : List Nd}, n ∈ a → n.ht ≤ Nd.hts a
  | m :: a, hn => by
    simp only [Nd.hts]
    rcases List.mem_cons.mp hn with rfl | hn
    · omega
    · have := hts_mem hn; omega
theorem ncnts_mem {n : Nd} : ∀ {a : List Nd}, n ∈ a → n.cnt ≤ Nd.cnts a
  | m :: a, hn => by
    simp only [Nd.cnts]
    rcases List.mem_cons.mp hn with rfl | hn
    · omega
    · have := ncnts_mem hn; omega
theorem ncnts_app (b : List Nd) : ∀ a : List Nd, Nd.cnts (a ++ b) = Nd.cnts a + Nd.cnts b
  | [] => by simp [Nd.cnts]
  | n :: a => by simp only [List.cons_append, Nd.cnts, ncnts_app b a]; omega
theorem hts_app (b : List Nd) : ∀ a : List Nd, Nd.hts (a ++ b) = max (Nd.hts a) (Nd.hts b)
  | [] => by simp [Nd.hts]
  | n :: a => by simp only [List.cons_append, Nd.hts, hts_app b a]; omega
theorem cnt_pos (n : Nd) : 1 ≤ n.cnt := by cases n <;> simp [Nd.cnt]
theorem ncnts_len : ∀ a : List Nd, a.length ≤ Nd.cnts a
  | [] => Nat.le_refl _
  | n :: a => by have := cnt_pos n; have := ncnts_len a; simp only [List.length_cons, Nd.cnts]; omega
theorem shs_app (b : List Nd) : ∀ a : List Nd, Nd.shs (a ++ b) = Nd.shs a ++ Nd.shs b
  | [] => rfl
  | n :: a => by simp only [List.cons_append, Nd.shs, shs_app b a, List.append_assoc]
theorem fls_app (b : List Nd) : ∀ a : List Nd, Nd.fls (a ++ b) = Nd.fls a ++ Nd.fls b
  | [] => rfl
  | n :: a => by simp only [List.cons_append, Nd.fls, fls_app b a, List.append_assoc]
mutual
theorem Nd.sh1_ok : ∀ n : Nd, Nd.Shns n.sh1 ∧ (n.Pok → Nd.Poks n.sh1) ∧ Nd.cnts n.sh1 ≤ n.cnt ∧ Nd.hts n.sh1 ≤ n.ht
  | .text p s => ⟨⟨trivial, trivial⟩, fun h => ⟨h, trivial⟩, by simp [Nd.sh1, Nd.cnts, Nd.cnt], by simp [Nd.sh1, Nd.hts, Nd.ht]⟩
  | .box p t o a ns => by
    obtain ⟨a1, a2, a3, a4⟩ := Nd.shs_ok ns
    exact ⟨⟨a1, trivial⟩, fun h => ⟨⟨h.1, h.2.1, a2 h.2.2⟩, trivial⟩, by simp only [Nd.sh1, Nd.cnts, Nd.cnt]; omega, by simp only [Nd.sh1, Nd.hts, Nd.ht]; omega⟩
  | .input p t o c v => ⟨⟨trivial, trivial⟩, fun h => ⟨h, trivial⟩, by simp [Nd.sh1, Nd.cnts, Nd.cnt], by simp [Nd.sh1, Nd.hts, Nd.ht]⟩
  | .child p c ps rs ns => by
    obtain ⟨a1, a2, a3, a4⟩ := Nd.shs_ok ns
    exact ⟨a1, fun h => a2 h.2, by simp only [Nd.sh1, Nd.cnt]; omega, by simp only [Nd.sh1, Nd.ht]; omega⟩
  | .place p k => ⟨trivial, fun _ => trivial, by simp [Nd.sh1, Nd.cnts], by simp [Nd.sh1, Nd.hts]⟩
theorem Nd.shs_ok : ∀ ns : List Nd, Nd.Shns (Nd.shs ns) ∧ (Nd.Poks ns → Nd.Poks (Nd.shs ns)) ∧ Nd.cnts (Nd.shs ns) ≤ Nd.cnts ns ∧ Nd.hts (Nd.shs ns) ≤ Nd.hts ns
  | [] => ⟨trivial, fun _ => trivial, Nat.le_refl _, Nat.le_refl _⟩
  | n :: ns => by
    obtain ⟨a1, a2, a3, a4⟩ := Nd.sh1_ok n
    obtain ⟨b1, b2, b3, b4⟩ := Nd.shs_ok ns
    refine ⟨shns_app b1 a1, fun h => poks_app (b2 h.2) (a2 h.1), ?_, ?_⟩
    · simp only [Nd.shs, Nd.cnts, ncnts_app]; omega
    · simp only [Nd.shs, Nd.hts, hts_app]; omega
end
mutual
theorem Nd.sh1_id : ∀ n : Nd, n.Shn → n.sh1 = [n]
  | .text _ _, _ | .input _ _ _ _ _, _ => rfl
  | .box p t o a ns, h => by simp only [Nd.sh1, Nd.shs_id ns h]
  | .child _ _ _ _ _, h => h.elim
  | .place _ _, h => h.elim
theorem Nd.shs_id : ∀ ns : List Nd, Nd.Shns ns → Nd.shs ns = ns
  | [], _ => rfl
  | n :: ns, h => by simp only [Nd.shs, Nd.sh1_id n h.1, Nd.shs_id ns h.2, List.cons_append, List.nil_append]
end
mutual
theorem Nd.fl1_ok : ∀ n : Nd, n.fl1.length ≤ n.cnt ∧ (n.Pok → Nd.Poks n.fl1) ∧ (n.Shn → Nd.Shns n.fl1)
  | .text p s => ⟨by simp [Nd.fl1, Nd.cnt], fun h => ⟨h, trivial⟩, fun h => ⟨h, trivial⟩⟩
  | .box p t o a ns => by
    obtain ⟨a1, a2, a3⟩ := Nd.fls_ok ns
    exact ⟨by simp only [Nd.fl1, Nd.cnt, List.length_cons]; omega, fun h => ⟨h, a2 h.2.2⟩, fun h => ⟨h, a3 h⟩⟩
  | .input p t o c v => ⟨by simp [Nd.fl1, Nd.cnt], fun h => ⟨h, trivial⟩, fun h => ⟨h, trivial⟩⟩
  | .child p c ps rs ns => ⟨by simp [Nd.fl1, Nd.cnt], fun h => ⟨h, trivial⟩, fun h => h.elim⟩
  | .place p k => ⟨by simp [Nd.fl1, Nd.cnt], fun h => ⟨h, trivial⟩, fun h => h.elim⟩
theorem Nd.fls_ok : ∀ ns : List Nd, (Nd.fls ns).length ≤ Nd.cnts ns ∧ (Nd.Poks ns → Nd.Poks (Nd.fls ns)) ∧ (Nd.Shns ns → Nd.Shns (Nd.fls ns))
  | [] => ⟨Nat.le_refl _, fun _ => trivial, fun _ => trivial⟩
  | n :: ns => by
    obtain ⟨a1, a2, a3⟩ := Nd.fl1_ok n
    obtain ⟨b1, b2, b3⟩ := Nd.fls_ok ns
    exact ⟨by simp only [Nd.fls, Nd.cnts, List.length_append]; omega, fun h => poks_app (b2 h.2) (a2 h.1), fun h => shns_app (b3 h.2) (a3 h.1)⟩
end
/-! ### the line from outside to a path -/
mutual
def Nd.ln1 (p : Path) : Nd → List Nd
  | .text q s => if q = p then [.text q s] else []
  | .box q t o a ns => if q = p then [.box q t o a ns] else if Nd.lns p ns = [] then [] else .box q t o a ns :: Nd.lns p ns
  | .input q t o c v => if q = p then [.input q t o c v] else []
  | .child q c ps rs ns => if q = p then [.child q c ps rs ns] else []
  | .place q k => if q = p then [.place q k] else []
def Nd.lns (p : Path) : List Nd → List Nd
  | [] => []
  | n :: ns => if n.ln1 p = [] then Nd.lns p ns else n.ln1 p
end
theorem lns_skip {p : Path} (b : List Nd) : ∀ a : List Nd, (∀ n ∈ a, n.ln1 p = []) → Nd.lns p (a ++ b) = Nd.lns p b
  | [], _ => rfl
  | n :: a, h => by
    simp only [List.cons_append, Nd.lns, if_pos (h n List.mem_cons_self)]
    exact lns_skip b a fun m hm => h m (List.mem_cons_of_mem _ hm)
mutual
theorem Nd.ln1_ok (p : Path) : ∀ n : Nd, (n.ln1 p).length ≤ n.ht + 1 ∧ (n.Pok → Nd.Poks (n.ln1 p)) ∧ (n.Shn → Nd.Shns (n.ln1 p))
  | .text q s => by
    simp only [Nd.ln1]
    split
    · exact ⟨by simp, fun h => ⟨h, trivial⟩, fun h => ⟨h, trivial⟩⟩
    · exact ⟨by simp, fun _ => trivial, fun _ => trivial⟩
  | .box q t o a ns => by
    obtain ⟨a1, a2, a3⟩ := Nd.lns_ok p ns
    simp only [Nd.ln1]
    split
    · exact ⟨by simp, fun h => ⟨h, trivial⟩, fun h => ⟨h, trivial⟩⟩
    · split
      · exact ⟨by simp, fun _ => trivial, fun _ => trivial⟩
      · exact ⟨by simp only [List.length_cons, Nd.ht]; omega, fun h => ⟨h, a2 h.2.2⟩, fun h => ⟨h, a3 h⟩⟩
  | .input q t o c v => by
    simp only [Nd.ln1]
    split
    · exact ⟨by simp, fun h => ⟨h, trivial⟩, fun h => ⟨h, trivial⟩⟩
    · exact ⟨by simp, fun _ => trivial, fun _ => trivial⟩
  | .child q c ps rs ns => by
    simp only [Nd.ln1]
    split
    · exact ⟨by simp, fun h => ⟨h, trivial⟩, fun h => h.elim⟩
    · exact ⟨by simp, fun _ => trivial, fun _ => trivial⟩
  | .place q k => by
    simp only [Nd.ln1]
    split
    · exact ⟨by simp, fun h => ⟨h, trivial⟩, fun h => h.elim⟩
    · exact ⟨by simp, fun _ => trivial, fun _ => trivial⟩
theorem Nd.lns_ok (p : Path) : ∀ ns : List Nd, (Nd.lns p ns).length ≤ Nd.hts ns + 1 ∧ (Nd.Poks ns → Nd.Poks (Nd.lns p ns)) ∧ (Nd.Shns ns → Nd.Shns (Nd.lns p ns))
  | [] => ⟨by simp [Nd.lns], fun _ => trivial, fun _ => trivial⟩
  | n :: ns => by
    obtain ⟨a1, a2, a3⟩ := Nd.ln1_ok p n
    obtain ⟨b1, b2, b3⟩ := Nd.lns_ok p ns
    simp only [Nd.lns, Nd.hts]
    split
    · exact ⟨by omega, fun h => b2 h.2, fun h => b3 h.2⟩
    · exact ⟨by omega, fun h => a2 h.1, fun h => a3 h.1⟩
end
/-- what an event means on a line, the innermost first -/
def meanOf : List Nd → Option (Path × Nat)
  | [] => none
  | .box _ _ o (some a) _ :: _ => some (o, a)
  | _ :: r => meanOf r
def meanT : Option (Path × Nat) → T
  | none => .non
  | some (o, a) => .tup [pathT o, .int (a : Int)]
def fieldOf (l : List Nd) : Option (Path × Nat) := match l.getLast? with
  | some (.input _ _ o c _) => some (o, c)
  | _ => none
theorem meanOf_pok : ∀ {l : List Nd}, Nd.Poks l → ∀ x ∈ meanOf l, PathOk x.1
  | [], _, x, h => by cases h
  | .box _ _ o (some a) _ :: r, hp, x, h => by cases h; exact hp.1.2.1
  | .box _ _ o none _ :: r, hp, x, h => meanOf_pok hp.2 x h
  | .text _ _ :: r, hp, x, h => meanOf_pok hp.2 x h
  | .input _ _ _ _ _ :: r, hp, x, h => meanOf_pok hp.2 x h
  | .child _ _ _ _ _ :: r, hp, x, h => meanOf_pok hp.2 x h
  | .place _ _ :: r, hp, x, h => meanOf_pok hp.2 x h
theorem meanT_dep {m : Option (Path × Nat)} (h : ∀ x ∈ m, PathOk x.1) (k : Nat) : Dep (k + 5) (meanT m) := by
  cases m with
  | none => exact .non _
  | some x => exact .tup _ _ (by simp) (by simp only [List.mem_cons, List.not_mem_nil, or_false, forall_eq_or_imp, forall_eq]; exact ⟨(h x rfl).dep k, (Dep.int _ _)⟩)
/-! ### a page's own shape -/
theorem poks_of : ∀ {a : List Nd}, (∀ n ∈ a, n.Pok) → Nd.Poks a
  | [], _ => trivial
  | n :: a, h => ⟨h n List.mem_cons_self, poks_of fun m hm => h m (List.mem_cons_of_mem _ hm)⟩
theorem hts_of {m : Nat} : ∀ {a : List Nd}, (∀ n ∈ a, n.ht ≤ m) → Nd.hts a ≤ m
  | [], _ => Nat.zero_le _
  | n :: a, h => by
    have := h n List.mem_cons_self
    have := hts_of fun m hm => h m (List.mem_cons_of_mem _ hm)
    simp only [Nd.hts]
    omega
theorem fill_ht (X : Pc) : ∀ (n : Nat) (o : Path) (c : Sc) (ts : List Tp) (p : Path), Nd.hts (fill X n o c ts p) ≤ n
  | 0, _, _, _, _ => Nat.zero_le _
  | n + 1, o, c, ts, p => by
    refine hts_of fun nd hnd => ?_
    simp only [fill] at hnd
    obtain ⟨it, _, rfl⟩ := List.mem_map.mp hnd
    generalize it.2.1 = t
    cases t with
    | box tag key act cs => simp only [nodeOf, Nd.ht]; have := fill_ht X n o { c with index := it.2.2 } cs (p ++ [it.1]); omega
    | child d key props => simp only [nodeOf, childOf, Nd.ht]; have := fill_ht X n (p ++ [it.1]) (X.sc (p ++ [it.1]) d (props.map (E.val { c with index := it.2.2 }))) (X.comp d).cs (p ++ [it.1]); omega
    | part k =>
      simp only [nodeOf]
      split
      · simp only [childOf, Nd.ht]; have := fill_ht X n (p ++ [it.1]) (X.sc (p ++ [it.1]) (X.g.parts.getD k 0) []) (X.comp (X.g.parts.getD k 0)).cs (p ++ [it.1]); omega
      · simp [Nd.ht]
    | _ => simp [nodeOf, Nd.ht]
theorem named_short : ∀ (ds : List Dr) (tk : List Nm), (∀ d ∈ ds, d.other.short) → (∀ d ∈ ds, d.wish.short) → ∀ x ∈ lawNamed tk ds, x.1.short
  | [], tk, _, _, x, h => nomatch h
  | d :: ds, tk, h1, h2, x, h => by
    simp only [lawNamed, List.mem_cons] at h
    rcases h with rfl | h
    · dsimp only
      unfold lawName
      have a := h1 d List.mem_cons_self
      have b := h2 d List.mem_cons_self
      cases e : d.wish with
      | key t v =>
        dsimp only
        rw [e] at b
        split
        · exact a
        · exact b
      | _ => dsimp only; rw [e] at b; exact b
    · exact named_short ds _ (fun y hy => h1 y (List.mem_cons_of_mem _ hy)) (fun y hy => h2 y (List.mem_cons_of_mem _ hy)) x h
mutual
theorem Tp.dis1_short : ∀ (t : Tp) (c : Sc) (addr reps : List Int), addr.length + 2 * t.dep ≤ 1000 → reps.length + t.dep ≤ 1000 → ∀ d ∈ t.dis1 c addr reps, d.other.short ∧ d.wish.short
  | .when e cs os, c, addr, reps, h1, h2, d, h => by
    simp only [Tp.dep] at h1 h2
    simp only [Tp.dis1] at h
    split at h
    · exact Tp.dis_short os c _ reps 0 (by simp; omega) (by omega) d h
    · exact Tp.dis_short cs c _ reps 0 (by simp; omega) (by omega) d h
  | .each e cs, c, addr, reps, h1, h2, d, h => by
    simp only [Tp.dep] at h1 h2
    simp only [Tp.dis1, List.mem_flatMap] at h
    obtain ⟨n, _, h⟩ := h
    exact Tp.dis_short cs _ addr _ 0 (by omega) (by simp; omega) d h
  | .text _, c, addr, reps, h1, h2, d, h | .show _, c, addr, reps, h1, h2, d, h | .input _ _, c, addr, reps, h1, h2, d, h => by
    simp only [Tp.dis1, List.mem_singleton] at h
    subst h
    exact ⟨⟨by omega, by omega⟩, ⟨by omega, by omega⟩⟩
  | .part k, c, addr, reps, h1, h2, d, h => by
    simp only [Tp.dis1, List.mem_singleton] at h
    subst h
    exact ⟨⟨by omega, by omega⟩, trivial⟩
  | .box _ key _ _, c, addr, reps, h1, h2, d, h | .child _ key _, c, addr, reps, h1, h2, d, h => by
    simp only [Tp.dis1, List.mem_singleton] at h
    subst h
    refine ⟨⟨by omega, by omega⟩, ?_⟩
    cases key with
    | none => exact ⟨by omega, by omega⟩
    | some e => show addr.length ≤ 1000; omega
theorem Tp.dis_short : ∀ (ts : List Tp) (c : Sc) (before reps : List Int) (k : Nat), before.length + 2 * Tp.deps ts + 1 ≤ 1000 → reps.length + Tp.deps ts ≤ 1000 → ∀ d ∈ Tp.dis c before reps k ts, d.other.short ∧ d.wish.short
  | [], c, before, reps, k, h1, h2, d, h => nomatch h
  | t :: ts, c, before, reps, k, h1, h2, d, h => by
    simp only [Tp.deps] at h1 h2
    simp only [Tp.dis, List.mem_append] at h
    rcases h with h | h
    · exact Tp.dis1_short t c _ reps (by simp; omega) (by omega) d h
    · exact Tp.dis_short ts c before reps (k + 1) (by omega) (by omega) d h
end
theorem fill_pok {X : Pc} (h : X.Ok) : ∀ (n own : Nat) (free : Bool) (o : Path) (c : Sc) (ts : List Tp) (p : Path), own ≤ X.g.comps.length - 1 → Tp.Oks own (X.g.comps.length - 1) free ts → Tp.deps ts ≤ 3 → PathOk o → PathOk p → p.length + n ≤ 400 → Nd.Poks (fill X n o c ts p)
  | 0, _, _, _, _, _, _, _, _, _, _, _, _ => trivial
  | n + 1, own, free, o, c, ts, p, ho, hk, hd, po, pp, hl => by
    have kid : ∀ (q : Path) (d : Nat) (props : List Int), d ≤ X.g.comps.length - 1 → PathOk q → q.length + n ≤ 400 → (childOf X (fill X n) (lkAll n) q d props).Pok := fun q d props h2 hq hl2 => by
      have cd := h.comp h2
      exact ⟨hq, fill_pok h n d true q (X.sc q d props) (X.comp d).cs q h2 cd.oks cd.deps hq hq hl2⟩
    refine poks_of fun nd hnd => ?_
    simp only [fill] at hnd
    obtain ⟨it, hit, rfl⟩ := List.mem_map.mp hnd
    have sh := named_short _ [] (fun d hd' => (Tp.dis_short ts c [] [] 0 (by simp; omega) (by simp; omega) d hd').1) (fun d hd' => (Tp.dis_short ts c [] [] 0 (by simp; omega) (by simp; omega) d hd').2) it hit
    obtain ⟨dd, hdd, h1, h2⟩ := lawNamed_tp _ _ it hit
    obtain ⟨a1, ⟨fr, a2⟩, a3, a4⟩ := Tp.dis_ok ts c [] [] 0 hk dd hdd
    rw [← h1] at a1 a2 a3
    have here : PathOk (p ++ [it.1]) := pp.snoc sh (by omega)
    have hl2 : (p ++ [it.1]).length + n ≤ 400 := by simp; omega
    generalize it.2.1 = t at a1 a2 a3
    cases t with
    | when _ _ _ => cases a1
    | each _ _ => cases a1
    | text s => exact here
    | «show» s => exact here
    | input _ _ => exact ⟨here, po⟩
    | box tag key act cs =>
      simp only [Tp.dep] at a3
      exact ⟨here, po, fill_pok h n own fr o { c with index := it.2.2 } cs (p ++ [it.1]) ho a2.2.2.2 (by omega) po here hl2⟩
    | child d key props => exact kid _ d _ a2.2.1 here hl2
    | part k =>
      simp only [nodeOf]
      split
      · rename_i hin
        have hk := h.pres k hin
        have hp := h.g.parts _ (List.getElem_mem hk)
        have e3 : X.g.parts.getD k 0 = X.g.parts[k] := by rw [List.getD_eq_getElem?_getD, List.getElem?_eq_getElem hk]; rfl
        rw [e3]
        exact kid _ _ _ (by omega) here hl2
      · exact here
/-! ### promises -/
def spShown (n : Nat) : Sp := fun vs H Q _ => ∃ (ns : List Nd) (v : V), vs = [v] ∧ IsT H (.tup (Nd.toTs ns)) v ∧ Nd.hts ns < n ∧ Nd.cnts ns ≤ 80000 ∧
  ∀ r H', IsT H' (.tup (Nd.toTs (Nd.shs ns))) r → Oth [] H H' → Q r H'
def spFlat (n : Nat) : Sp := fun vs H Q _ => ∃ (ns : List Nd) (v : V), vs = [v] ∧ IsT H (.tup (Nd.toTs ns)) v ∧ Nd.hts ns < n ∧ Nd.cnts ns ≤ 80000 ∧
  ∀ p H' rs, H p = none → H' p = some (.lst rs) → Paired (IsT H') ((Nd.fls (Nd.shs ns)).map Nd.toT) rs → Oth [] H H' → Q (.ref p) H'
def spChain (n : Nat) : Sp := fun vs H Q _ => ∃ (ns : List Nd) (p : Path) (v vp : V), vs = [v, vp] ∧ IsT H (.tup (Nd.toTs ns)) v ∧ IsT H (pathT p) vp ∧ Nd.hts ns < n ∧ Nd.Poks ns ∧ PathOk p ∧ n ≤ 1000 ∧
  ∀ q H' rs, H q = none → H' q = some (.lst rs) → Paired (IsT H') ((Nd.lns p ns).map Nd.toT) rs → Oth [] H H' → Q (.ref q) H'
def spLine (n : Nat) : Sp := fun vs H Q _ => ∃ (ns : List Nd) (p : Path) (v vp : V), vs = [v, vp] ∧ IsT H (.tup (Nd.toTs ns)) v ∧ IsT H (pathT p) vp ∧ Nd.hts ns < n ∧ Nd.Poks ns ∧ PathOk p ∧ n ≤ 1000 ∧
  ∀ r H', IsT H' (.tup (Nd.toTs (Nd.lns p ns))) r → Oth [] H H' → Q r H'
def spMean (n : Nat) : Sp := fun vs H Q _ => ∃ (ns : List Nd) (p : Path) (v vp : V), vs = [v, vp] ∧ IsT H (.tup (Nd.toTs ns)) v ∧ IsT H (pathT p) vp ∧ Nd.hts ns < n ∧ Nd.Poks ns ∧ PathOk p ∧ n ≤ 1000 ∧
  ∀ r H', IsT H' (meanT (meanOf (Nd.lns p ns).reverse)) r → Oth [] H H' → Q r H'
def spField (n : Nat) : Sp := fun vs H Q _ => ∃ (ns : List Nd) (p : Path) (v vp : V), vs = [v, vp] ∧ IsT H (.tup (Nd.toTs ns)) v ∧ IsT H (pathT p) vp ∧ Nd.hts ns < n ∧ Nd.Poks ns ∧ PathOk p ∧ n ≤ 1000 ∧
  ∀ r H', IsT H' (meanT (fieldOf (Nd.lns p ns))) r → Oth [] H H' → Q r H'
def Nd.kind : Nd → Str
  | .text _ _ => "text" | .box .. => "box" | .input .. => "input" | .child .. => "child" | .place .. => "place"
theorem Nd.kindAt {H : Hp} {v : V} : ∀ (n : Nd), IsT H n.toT v → ∃ a vp r, v = .ref a ∧ H a = some (.tup (.str n.kind :: vp :: r)) ∧ IsT H (pathT n.path) vp
  | .text .., h => by obtain ⟨a, _, x, y, rfl, e, p, q, _⟩ := IsT.inv3 h; rw [p.of_str] at e; exact ⟨a, _, _, rfl, e, q⟩
  | .box .., h => by
    obtain ⟨a, xs, rfl, e, p⟩ := IsT.inv h
    cases p with | cons r1 p => cases p with | cons r2 p => rw [r1.of_str] at e; exact ⟨a, _, _, rfl, e, r2⟩
  | .input .., h => by
    obtain ⟨a, xs, rfl, e, p⟩ := IsT.inv h
    cases p with | cons r1 p => cases p with | cons r2 p => rw [r1.of_str] at e; exact ⟨a, _, _, rfl, e, r2⟩
  | .child .., h => by
    obtain ⟨a, xs, rfl, e, p⟩ := IsT.inv h
    cases p with | cons r1 p => cases p with | cons r2 p => rw [r1.of_str] at e; exact ⟨a, _, _, rfl, e, r2⟩
  | .place .., h => by obtain ⟨a, _, x, y, rfl, e, p, q, _⟩ := IsT.inv3 h; rw [p.of_str] at e; exact ⟨a, _, _, rfl, e, q⟩
theorem IsT.inv6 {H : Hp} {v : V} {t1 t2 t3 t4 t5 t6 : T} (h : IsT H (.tup [t1, t2, t3, t4, t5, t6]) v) : ∃ a x1 x2 x3 x4 x5 x6, v = .ref a ∧ H a = some (.tup [x1, x2, x3, x4, x5, x6]) ∧ IsT H t1 x1 ∧ IsT H t2 x2 ∧ IsT H t3 x3 ∧ IsT H t4 x4 ∧ IsT H t5 x5 ∧ IsT H t6 x6 := by
  obtain ⟨a, xs, rfl, e, p⟩ := h.inv
  cases p with | cons p1 p => cases p with | cons p2 p => cases p with | cons p3 p => cases p with | cons p4 p => cases p with | cons p5 p => cases p with | cons p6 p => cases p; exact ⟨a, _, _, _, _, _, _, rfl, e, p1, p2, p3, p4, p5, p6⟩
theorem IsT.mk6 {H : Hp} {a : Addr} {t1 t2 t3 t4 t5 t6 : T} {x1 x2 x3 x4 x5 x6 : V} (e : H a = some (.tup [x1, x2, x3, x4, x5, x6])) (p1 : IsT H t1 x1) (p2 : IsT H t2 x2) (p3 : IsT H t3 x3) (p4 : IsT H t4 x4) (p5 : IsT H t5 x5) (p6 : IsT H t6 x6) : IsT H (.tup [t1, t2, t3, t4, t5, t6]) (.ref a) :=
  .mk e (.cons p1 (.cons p2 (.cons p3 (.cons p4 (.cons p5 (.cons p6 .nil))))))
theorem Nd.pok_path {n : Nd} (h : n.Pok) : PathOk n.path := by
  cases n with
  | text _ _ => exact h
  | place _ _ => exact h
  | _ => exact h.1
end Pw
namespace Pw
open PySem PySem.Spec PyProof.Rows L2
/-- a for over a tuple, backwards -/
theorem for_revT {K : PySem.W.Frag} {a : Addr} {xs : List V} {g : TG} {tb : TS} {D : Ends} {σ : L2.St} {H : Hp} (Pv : Nat → L2.St → Hp → Prop) (first : Pv 0 σ H) (stays : ∀ i σ H, Pv i σ H → SqT K H a xs)
    (turn : ∀ i x σ H, i < xs.length → xs[xs.length - 1 - i]? = some x → Pv i σ H → g x σ H fun σ2 H2 => tb { D with nx := Pv (i + 1), ct := Pv (i + 1), bk := D.nx } σ2 H2) (last : ∀ σ H, Pv xs.length σ H → D.nx σ H) :
    ∃ W : Nat → Nat → L2.St → Hp → Prop, (∃ m, W 0 m σ H) ∧ ∀ i m σ H, W i m σ H →
      ((RT.ItvT K a xs.length).stop i H ∧ D.nx σ H) ∨ ((RT.ItvT K a xs.length).go i H ∧ ∃ N : L2.St → Hp → Prop, (∀ σ' H', N σ' H' → ∃ m', m' < m ∧ W (i + 1) m' σ' H') ∧ ∀ x H', (RT.ItvT K a xs.length).yld i H x H' → g x σ H' fun σ2 H2 => tb { D with nx := N, ct := N, bk := D.nx } σ2 H2) := by
  refine ⟨fun i m σ H => m + i = xs.length ∧ Pv i σ H, ⟨xs.length, rfl, first⟩, ?_⟩
  rintro i m σ H ⟨e, p⟩
  have st := stays i σ H p
  rcases Nat.lt_or_ge i xs.length with lt | ge
  · have ex : xs[xs.length - 1 - i]? = some (xs[xs.length - 1 - i]'(by omega)) := List.getElem?_eq_getElem _
    refine .inr ⟨⟨lt, xs, _, st, ex⟩, Pv (i + 1), fun σ' H' p' => ⟨m - 1, by omega, by omega, p'⟩, fun x H' y => ?_⟩
    obtain ⟨rfl, y⟩ := y
    exact turn i x σ _ lt (y xs st) p
  · obtain rfl : i = xs.length := by omega
    exact .inl ⟨Nat.le_refl _, last σ H p⟩
theorem ln1_hit {p : Path} {n : Nd} (h : n.path = p) : n.ln1 p = [n] := by
  cases n <;> (simp only [Nd.path] at h; simp only [Nd.ln1, if_pos h])
theorem ln1_leaf {p : Path} {n : Nd} (h : n.path ≠ p) (hb : n.kind ≠ "box") : n.ln1 p = [] := by
  cases n with
  | box _ _ _ _ _ => exact absurd rfl hb
  | _ => (simp only [Nd.path] at h; simp only [Nd.ln1, if_neg h])
theorem lns_drop {p : Path} {ns : List Nd} {j : Nat} {n : Nd} (gn : ns[j]? = some n) (h : ∀ m ∈ ns.take j, m.ln1 p = []) (hn : n.ln1 p ≠ []) : Nd.lns p ns = n.ln1 p := by
  have hj : j < ns.length := (List.getElem?_eq_some_iff.mp gn).1
  have e3 : n = ns[j] := by rw [List.getElem?_eq_getElem hj] at gn; exact (Option.some.inj gn).symm
  have e1 : ns = ns.take j ++ n :: ns.drop (j + 1) := by rw [e3, ← List.drop_eq_getElem_cons hj, List.take_append_drop]
  rw [e1, lns_skip _ _ h, Nd.lns, if_neg hn]
theorem lns_none {p : Path} : ∀ {ns : List Nd}, (∀ m ∈ ns, m.ln1 p = []) → Nd.lns p ns = []
  | [], _ => rfl
  | n :: ns, h => by
    rw [Nd.lns, if_pos (h n List.mem_cons_self)]
    exact lns_none fun m hm => h m (List.mem_cons_of_mem _ hm)
theorem take_none {p : Path} {ns : List Nd} {j : Nat} {n : Nd} (gn : ns[j]? = some n) (h : ∀ m ∈ ns.take j, m.ln1 p = []) (hn : n.ln1 p = []) : ∀ m ∈ ns.take (j + 1), m.ln1 p = [] := fun m hm => by
  rw [take_snoc gn] at hm
  rcases List.mem_append.mp hm with q | q
  · exact h m q
  · rw [List.mem_singleton.mp q]; exact hn
/-- a node that an event means something on -/
def Nd.acts : Nd → Option (Path × Nat)
  | .box _ _ o (some a) _ => some (o, a)
  | _ => none
theorem meanOf_skip (b : List Nd) : ∀ a : List Nd, (∀ n ∈ a, n.acts = none) → meanOf (a ++ b) = meanOf b
  | [], _ => rfl
  | n :: a, h => by
    have h1 := h n List.mem_cons_self
    have ih := meanOf_skip b a fun m hm => h m (List.mem_cons_of_mem _ hm)
    rw [List.cons_append]
    cases n with
    | box q t o act inner =>
      cases act with
      | none => exact ih
      | some x => cases h1
    | _ => exact ih
theorem meanOf_hit {n : Nd} {x : Path × Nat} (h : n.acts = some x) (r : List Nd) : meanOf (n :: r) = some x := by
  cases n with
  | box q t o act inner =>
    cases act with
    | none => cases h
    | some y => exact h
  | _ => cases h
theorem meanOf_none : ∀ {l : List Nd}, (∀ n ∈ l, n.acts = none) → meanOf l = none := fun {l} h => by
  have := meanOf_skip [] l h
  simpa [meanOf] using this
theorem rev_take {α : Type} {l : List α} {i : Nat} {x : α} (h : l[l.length - 1 - i]? = some x) (hi : i < l.length) : l.reverse[i]? = some x := by
  rw [List.getElem?_reverse hi]
  exact h
theorem sl_last {K : PySem.W.Frag} {H : Hp} {a : Addr} {xs : List V} {Q : VK} (ha : H a = some (.tup xs)) (q : ∀ (c : Addr) (H' : Hp), Oth [] H H' → H' c = some (.tup (xs.drop (xs.length - 1))) → Q (.ref c) H') : rSlA K (.ref a) (some (-1)) none H Q := by
  have e : HT.sIx xs.length 0 (some (-1)) = xs.length - 1 := by
    show (if (-1 : Int) < 0 then ((-1 : Int) + (xs.length : Int)).toNat else min (-1 : Int).toNat xs.length) = _
    rw [if_pos (by decide)]
    omega
  refine ⟨a, xs, rfl, SqT.of ha, fun h => ?_, fun h p hp => ?_⟩
  · have z := h.1
    rw [e] at z
    exact q a H Oth.refl (by rw [z, List.drop_zero]; exact ha)
  · refine q p _ (Oth.new hp) ?_
    rw [upd_same]
    unfold cutV
    rw [HT.sIx_none, e, List.take_of_length_le (by rw [List.length_drop]; omega)]
end Pw
namespace Pw
open PySem PySem.Spec PyProof.Rows L2
section
variable {X : Cx}
/-- one pair is put in -/
theorem dictSetN {pins : List (Addr × Obj)} {σ : L2.St} {H : Hp} {s : Shared} {E : Value → Shared → Prop} {a : Addr} {y z : V} {u r : Value} {Nx : Hp → Prop} {Q : Unit → Shared → Prop} (hu : X.A.units + 20 < cLine) (I : Inv X pins σ H s) (ry : RelV y u) (rz : RelV z r)
    (h : rSetN X.prog X.w (.ref a) y z H Nx) (q : ∀ s' H', Inv X pins σ H' s' → Nx H' → Q () s') : wpAny (model X.prog X.w) X.A (dictSet a u r) Q E s := by
  obtain ⟨_, b, k, kvs, e, rfl, hk, hd, hl, nx⟩ := h
  cases e
  obtain rfl : u = Value.ref b := ry
  obtain ⟨φ, ea⟩ := hd.is
  obtain ⟨xs, zl, hs, rel, dd⟩ := hd.open I.hok
  have hx : xs.length ≤ sizeLine := by rw [← Paired.length rel]; exact zl
  have key := hk.ok (P := X.prog) (w := X.w) I.hok
  unfold dictSet
  refine wpAny_holding (wpAny_bind ((nestedKind X.prog X.w).pyHash (by show X.A.units + 8 < cLine; omega) key ?_))
  refine wpAny_dictSetHashed_heap (knd := nestedKind X.prog X.w) (s := { s with toks := s.toks + (nestedKind X.prog X.w).draws k }) (hsz := hx) (by show X.A.units + 8 < cLine; omega) key dd fun h' dd' hs' => ?_
  have he : ∃ o, h'.get? a = some o := let ⟨o, _, _, ho, _⟩ := dd'; ⟨o, ho⟩
  have ot : Oth [a] H (upd H a (.ext (NDφ X.prog X.w a (storedH xs k b r)))) := ⟨fun c o' n e => by rw [upd_ne (fun z => n (by rw [z]; simp))]; exact e, fun c ys e => by rw [upd_ne (ne_of e ea (fun z => nomatch z))]; exact e⟩
  exact q _ _ (d_write (I.tok _) (by rw [ea]; exact True.intro) hs' he (ND_ok dd')) (nx _ ot ⟨_, upd_same, by have := length_putK kvs k z; omega, hs, (rel.put k hk rz).oth ot⟩)
/-- what one writes of such a comprehension: its iterable, its target, key and value; the new dict grows -/
def tDcN (P : Program) (w : World) (wi : TI) (g : TG) (tk tv : TE) (vs : List Nat) : TE := fun σ H Q => wi σ H fun J H1 => ∀ D H2, H1 D = none → Oth [] H1 H2 → DN P w H2 D [] → ∃ W : Nat → Nat → Hp → Prop, (∃ m, W 0 m H2) ∧ ∀ i m H3, W i m H3 →
  (J.stop i H3 ∧ Q (.ref D) H3) ∨ (J.go i H3 ∧ ∃ Nx : Hp → Prop, (∀ H4, Nx H4 → ∃ m', m' < m ∧ W (i + 1) m' H4) ∧ ∀ x H4, J.yld i H3 x H4 → g x (wipe σ vs) H4 fun σ5 H5 => wipe σ5 vs = wipe σ vs ∧ tk σ5 H5 fun y H6 => tv σ5 H6 fun z H7 => rSetN P w (.ref D) y z H7 Nx)
theorem dcN_core {pins : List (Addr × Obj)} {s : Shared} {σ : L2.St} {H : Hp} {Q : VK} {kx vx tg iter : Expr} {scope : Scope} {own : List (Str × Nat)} {pos pos' : Pos} {wi : TI} {g : TG} {tk tv : TE} {use : Option (Value → Sem Unit)} {Qf : Value → Shared → Prop}
    (hu : X.A.units + 20 < cLine) (calm : X.calm = true) (nd : X.N.Nodup) (I : Inv X pins σ H s) (pi : PI X tg iter wi) (ok : BlkOk X.N X.env.scope scope own)
    (hg : ∀ s H C cl fp, PG (X.blk s H scope (compEnvC scope cl C X.env) fp) tg g) (hk : ∀ s H C cl fp, PE (X.blk s H scope (compEnvC scope cl C X.env) fp) kx tk)
    (hv : ∀ s H C cl fp, PE (X.blk s H scope (compEnvC scope cl C X.env) fp) vx tv) (fold : ∀ x, foldedSetIterable iter X.env x = pure x)
    (h : tDcN X.prog X.w wi g tk tv (own.map (·.2)) σ H Q)
    (post : ∀ D C s' m H', Inv X pins σ H' s' → Q (.ref D) H' → s'.heap.Ns C m → FpOk X pins H' C → compPost (model X.prog X.w) X.A X.xe use Qf (.ref D) C (.ok .next) s') :
    wpAny (model X.prog X.w) X.A (comprehension (.DictComp kx vx [⟨tg, iter, [], 0⟩] scope pos) scope X.env pos' newDict false (eval iter X.env) use) Qf X.xe s := by
  have fr : ∀ y ∈ scope.names, y.2 = .free → ∃ c, X.env.cells.lookup y.1 = some c := fun y hy e => (ok.free y hy e).elim (fun k => I.ok.has _ (.inl k)) fun k => I.ok.has _ (.inr k)
  refine wpAny_comprehension_free rfl fold (closure_ok fr) ok.kind (fun y hy e => (ok.uniq y hy).trans (congrArg some e)) (thn (pi.run pins s σ H _ I h) fun xv sA hA => thn hA fun itv sB hB => ?_)
  obtain ⟨it, fp, tn, J, HB, rfl, IB, T, stB, fB, q⟩ := hB
  refine wpAny_newObj_type (newEnv_comp ?_)
  obtain ⟨D, eD⟩ : ∃ D, D = sB.heap.objs.size := ⟨_, rfl⟩
  rw [← eD]
  have noD : HB D = none := IB.hok.fresh (Nat.le_of_eq eD.symm)
  obtain ⟨sC, eC⟩ : ∃ sC : Shared, sC = { sB with heap := sB.heap.push { cls := .type "dict", data := .dict #[] } } := ⟨_, rfl⟩
  obtain ⟨HC, eH⟩ : ∃ HC : Hp, HC = upd HB D (.ext (NDφ X.prog X.w D [])) := ⟨_, rfl⟩
  have big : (D == sysModules) = false := beq_eq_false_iff_ne.mpr (by rw [eD]; exact Ne.symm (Nat.ne_of_lt IB.big))
  have IC : Inv X pins σ HC sC := by
    rw [eC, eH]
    exact IB.laid (t' := sB.toks) (fun _ _ e => Heap.get?_push_of_some _ e) (Nat.le_of_eq eD.symm) (by rw [eD]; exact ND_ok (Heap.DictOfH.new sB.heap))
  have dn0 : DN X.prog X.w HC D [] := by rw [eH]; exact ⟨[], upd_same, Nat.zero_le _, big, .nil⟩
  have oC : Oth [] HB HC := by rw [eH]; exact Oth.new noD
  obtain ⟨W, ⟨m0, w0⟩, turn⟩ := q D HC noD oC dn0
  have keptC : ∀ b o, sB.heap.get? b = some o → sC.heap.get? b = some o := fun b o e => by rw [eC]; exact Heap.get?_push_of_some _ e
  have fC : ∀ b ∈ fp, FpOk X pins HC b ∧ b < sC.heap.objs.size := fun b hb => by
    obtain ⟨o, e, _⟩ := T.obj _ _ stB b hb
    have lt := Heap.lt_size e
    exact ⟨⟨by rw [eH, upd_ne (by rw [eD]; exact Nat.ne_of_lt lt)]; exact (fB b hb).1, (fB b hb).2⟩, Heap.lt_size (keptC b o e)⟩
  have ID := block_start IC ok nd fC
  have gG := hg sC HC sC.heap.objs.size (cellsFrom (sC.heap.objs.size + 1) scope.names (cloFrom X.env.cells scope.names [])) fp
  have gK := hk sC HC sC.heap.objs.size (cellsFrom (sC.heap.objs.size + 1) scope.names (cloFrom X.env.cells scope.names [])) fp
  have gV := hv sC HC sC.heap.objs.size (cellsFrom (sC.heap.objs.size + 1) scope.names (cloFrom X.env.cells scope.names [])) fp
  have none0 : ∀ b ∈ fp, HC b = none := fun b hb => (fC b hb).1.1
  rw [← eC]
  show codeAny _ _ (.compStart (.DictComp kx vx [⟨tg, iter, [], 0⟩] scope pos) 0 (.ref it) (.ref D) (compEnvC scope (cellsFrom (sC.heap.objs.size + 1) scope.names (cloFrom X.env.cells scope.names [])) sC.heap.objs.size X.env)) (compPost (model X.prog X.w) X.A X.xe use Qf (.ref D) sC.heap.objs.size) { sC with heap := pushCells (sC.heap.push { cls := .type "dict", data := .dict #[] }) scope.names }
  obtain ⟨ce, ece⟩ : ∃ ce, ce = compEnvC scope (cellsFrom (sC.heap.objs.size + 1) scope.names (cloFrom X.env.cells scope.names [])) sC.heap.objs.size X.env := ⟨_, rfl⟩
  rw [← ece] at ID gG gK gV ⊢
  have loc : ce.locals = sC.heap.objs.size := by rw [ece]; rfl
  obtain ⟨sD, eSD⟩ : ∃ sD : Shared, sD = { sC with heap := pushCells (sC.heap.push { cls := .type "dict", data := .dict #[] }) scope.names } := ⟨_, rfl⟩
  rw [← eSD] at ID ⊢
  have stD : tn 0 sD.heap := T.keep _ _ _ stB fun b _ o e => by rw [eSD]; exact pushCells_keeps _ _ _ _ (Heap.get?_push_of_some _ (keptC b o e))
  have foot : ∀ {τ : L2.St} {G : Hp} {u : Shared}, Inv (X.blk sC HC scope ce fp) [] τ G u → (∀ b ∈ fp, G b = none) → ∀ b ∈ fp, FpOk (X.blk sC HC scope ce fp) [] G b := fun J nn b hb =>
    ⟨nn b hb, (J.ok.exf b hb).1, J.ok.exfs b hb, .inl hb, fun x c e => (J.ok.exf b hb).2 x c e, fun p hp => by cases (show p ∈ ([] : List (Addr × Obj)) from hp)⟩
  have go : codeAny (model X.prog X.w) X.A (.compLoop (.DictComp kx vx [⟨tg, iter, [], 0⟩] scope pos) 0 (.ref it) (.ref D) ce) (compPost (model X.prog X.w) X.A X.xe use Qf (.ref D) sC.heap.objs.size) sD := by
    refine compLoop_anyD (fun n u => ∃ i G, Inv (X.blk sC HC scope ce fp) [] (wipe σ (own.map (·.2))) G u ∧ tn i u.heap ∧ (∀ b ∈ fp, G b = none) ∧ W i n G) (fun n u hI => ?_) m0 ⟨0, HC, ID, stD, none0, w0⟩
    obtain ⟨i, G, IG, stG, nG, wG⟩ := hI
    rcases turn i n G wG with ⟨stop, qq⟩ | ⟨go, Nx, hNx, step⟩
    · refine thnF (T.done (X.blk sC HC scope ce fp) rfl rfl rfl calm i [] u _ G (fun _ _ => False) IG (foot IG nG) stG stop) fun r u2 ⟨hr, I2⟩ => ?_
      subst hr
      have back : Inv X pins σ G u2 := IC.call' (ch := fp) I2.os I2.base I2.hok I2.bare fun b hb => let z := (fC b hb).1.2; ⟨z.2.2.1, z.1, z.2.2.2.1, z.2.2.2.2⟩
      have nl : G ce.locals = none := I2.free
      obtain ⟨m, hn, _⟩ := I2.loc
      have hn : u2.heap.Ns ce.locals m := hn
      rw [loc] at nl hn
      exact post D sC.heap.objs.size u2 m G back qq hn (IC.fpOk (Nat.le_refl _) nl)
    · refine thnF (T.item (X.blk sC HC scope ce fp) rfl rfl rfl calm i [] u _ G (fun _ _ => False) IG (foot IG nG) stG go) fun r u2 ⟨v, hr, h2⟩ => ?_
      subst hr
      refine thnF h2 fun _ u3 ⟨x, G3, I3, r3, y3, st3, n3⟩ => ?_
      refine thnF (gG.run _ u3 _ G3 x v _ (I3.pinned (foot I3 n3) (T.obj _ _ st3)) r3 (step x G3 y3)) fun _ u4 ⟨σ4, G4, I4, w4, q4⟩ => ?_
      refine wpAny_pure ?_
      show wpAny _ _ _ _ _ _
      refine thnF (gK.run _ u4 σ4 G4 _ I4 q4) fun ky u5 ⟨y5, G5, I5, r5, q5⟩ => ?_
      refine thnF (gV.run _ u5 σ4 G5 _ I5 q5) fun vy u6 ⟨y6, G6, I6, r6, q6⟩ => ?_
      refine dictSetN (X := X.blk sC HC scope ce fp) hu I6 r5 r6 q6 fun u7 G7 I7 nx => ?_
      obtain ⟨m', lt, w7⟩ := hNx G7 nx
      have pinned : ∀ b ∈ fp, ∀ o, u3.heap.get? b = some o → u7.heap.get? b = some o ∧ G7 b = none := fun b hb o e =>
        let z := I7.pin (b, o) (List.mem_append_right _ (List.mem_append_right _ (mem_pinsAt hb e)))
        ⟨z.1, z.2.1⟩
      refine ⟨m', lt, i + 1, G7, (I7.unpinned (pins := [])).weak (by rw [← w4, wipe_length]) (fun j v' e => by rw [← w4] at e; exact (wipe_some e).1), T.keep _ _ _ st3 fun b hb o e => (pinned b hb o e).1, fun b hb => ?_, w7⟩
      obtain ⟨o, e, _⟩ := T.obj _ _ st3 b hb
      exact (pinned b hb o e).2
  exact codeAny_compStart_dict go (T.self X.A 0 _ _ _ stD go)
theorem pe_dcN {kx vx tg iter : Expr} {scope : Scope} {own : List (Str × Nat)} {pos : Pos} {wi : TI} {g : TG} {tk tv : TE} (hu : X.A.units + 20 < cLine) (calm : X.calm = true) (nd : X.N.Nodup) (pi : PI X tg iter wi) (ok : BlkOk X.N X.env.scope scope own)
    (hg : ∀ s H C cl fp, PG (X.blk s H scope (compEnvC scope cl C X.env) fp) tg g) (hk : ∀ s H C cl fp, PE (X.blk s H scope (compEnvC scope cl C X.env) fp) kx tk)
    (hv : ∀ s H C cl fp, PE (X.blk s H scope (compEnvC scope cl C X.env) fp) vx tv) (fold : ∀ x, foldedSetIterable iter X.env x = pure x := by intro _; rfl) :
    PE X (.DictComp kx vx [⟨tg, iter, [], 0⟩] scope pos) (tDcN X.prog X.w wi g tk tv (own.map (·.2))) := ⟨fun pins s σ H Q I h => by
  rw [arm_eval_DictComp]
  exact dcN_core hu calm nd I pi ok hg hk hv fold h fun D C s' m H' I' q ns fo => ⟨m, ns, fun h'' sb => ⟨.ref D, H', I'.turned (t' := s'.toks) (fun b o hb e => (sb.2 b hb).trans e) fo.1 fo.2.1 fo.2.2.2.1 fo.2.2.2.2.1 fo.2.2.2.2.2, rfl, q⟩⟩⟩
theorem ps_setDcN {i : Nat} {y : Str} {py : Pos} {kx vx tg iter : Expr} {scope : Scope} {own : List (Str × Nat)} {pos spos : Pos} {wi : TI} {g : TG} {tk tv : TE} (hu : X.A.units + 20 < cLine) (calm : X.calm = true) (nd : X.N.Nodup) (hy : X.N[i]? = some y) (yl : X.env.scope.names.lookup y = some .local)
    (sw : swapsWith (.DictComp kx vx [⟨tg, iter, [], 0⟩] scope pos) (some (.Name y py)) spos.line X.env = pure true) (pi : PI X tg iter wi) (ok : BlkOk X.N X.env.scope scope own)
    (hg : ∀ s H C cl fp, PG (X.blk s H scope (compEnvC scope cl C X.env) fp) tg g) (hk : ∀ s H C cl fp, PE (X.blk s H scope (compEnvC scope cl C X.env) fp) kx tk)
    (hv : ∀ s H C cl fp, PE (X.blk s H scope (compEnvC scope cl C X.env) fp) vx tv) (fold : ∀ x, foldedSetIterable iter X.env x = pure x := by intro _; rfl) :
    PS X (.Assign [.Name y py] (.DictComp kx vx [⟨tg, iter, [], 0⟩] scope pos) spos) (tAsg (tDcN X.prog X.w wi g tk tv (own.map (·.2))) (gName i)) := ⟨fun pins s σ H D I h => by
  rw [exec_Assign_Name_used _ _ _ _ sw]
  refine wpAny_bind (wpAny_standAt (wpAny_bind ?_))
  show wpAny _ X.A (do let _ ← comprehension (.DictComp kx vx [⟨tg, iter, [], 0⟩] scope pos) scope X.env (firstIterPos [⟨tg, iter, [], 0⟩] pos) newDict false (eval iter X.env) (some (assign (.Name y py) X.env))) _ _ s
  have h : tDcN X.prog X.w wi g tk tv (own.map (·.2)) σ H (fun x H1 => gName i x σ H1 D.nx) := h
  refine wpAny_bind (thn (dcN_core (Qf := fun _ u => SP X pins D .next u) hu calm nd I pi ok hg hk hv fold h fun L C u m H' I' q ns fo => ?_) fun _ u hq => wpAny_pure (wpAny_pure hq))
  show wpAny _ _ (assign (.Name y py) X.env (.ref L)) _ _ _
  refine wpAny_assign_Name (store_ok2 (v := V.ref L) I' nd hy (.inl yl) rfl (fun u2 I2 ⟨a, sb, ha⟩ => ?_) (.inr yl))
  have apart : C ≠ a := ha.elim (fun z => by rw [z]; exact fo.2.1) fun z e => fo.2.2.2.2.1 y a z e.symm
  exact ⟨m, ns.sameBut sb apart, fun h3 sb3 => ⟨_, H', I2.turned (t' := u2.toks) (fun b o hb e => (sb3.2 b hb).trans e) fo.1 fo.2.1 fo.2.2.2.1 fo.2.2.2.2.1 fo.2.2.2.2.2, q⟩⟩⟩
theorem swD_true {kx vx : Expr} {gs : List Comprehension} {scope : Scope} {pos py : Pos} {y : Str} {l : Nat} {env : Env} (fn : env.scope.kind = .function) (loc : env.scope.names.lookup y = some .local) (hl : (py.line == pos.line) = true)
    (own : (scope.names.any fun (n, k) => n == y && (k == .local || k == .cell)) = false) : swapsWith (.DictComp kx vx gs scope pos) (some (.Name y py)) l env = pure true := by
  have ky : env.kindOf y = some .local := loc
  have hb : env.blockKind = .function := by unfold Env.blockKind; rw [fn]; rfl
  unfold swapsWith
  simp only [hb, ky, own, Expr.pos, hl]
  rfl
/-- over a tuple of pairs that stays -/
theorem dcN_tup {P : Program} {w : World} {K : PySem.W.Frag} {a : Addr} {xs : List V} {g : TG} {tk tv : TE} {vs : List Nat} {σ : L2.St} {H2 : Hp} {D : Addr} {Qd : Hp → Prop} (Pv : Nat → Hp → Prop) (h0 : Pv 0 H2) (stay : ∀ i H, i ≤ xs.length → Pv i H → SqT K H a xs)
    (one : ∀ i x H, xs[i]? = some x → Pv i H → g x (wipe σ vs) H fun σ5 H5 => wipe σ5 vs = wipe σ vs ∧ tk σ5 H5 fun y H6 => tv σ5 H6 fun z H7 => rSetN P w (.ref D) y z H7 (Pv (i + 1))) (end' : ∀ H, Pv xs.length H → Qd H) :
    ∃ W : Nat → Nat → Hp → Prop, (∃ m, W 0 m H2) ∧ ∀ i m H3, W i m H3 → ((Itt K a).stop i H3 ∧ Qd H3) ∨ ((Itt K a).go i H3 ∧ ∃ Nx : Hp → Prop, (∀ H4, Nx H4 → ∃ m', m' < m ∧ W (i + 1) m' H4) ∧ ∀ x H4, (Itt K a).yld i H3 x H4 → g x (wipe σ vs) H4 fun σ5 H5 => wipe σ5 vs = wipe σ vs ∧ tk σ5 H5 fun y H6 => tv σ5 H6 fun z H7 => rSetN P w (.ref D) y z H7 Nx) := by
  refine ⟨fun i m H => m + i = xs.length ∧ Pv i H, ⟨xs.length, rfl, h0⟩, fun i m H3 hW => ?_⟩
  obtain ⟨em, p⟩ := hW
  have sq := stay i H3 (by omega) p
  rcases Nat.lt_or_ge i xs.length with lt | ge
  · refine .inr ⟨⟨xs, xs[i], sq, List.getElem?_eq_getElem lt⟩, Pv (i + 1), fun H4 p' => ⟨m - 1, by omega, by omega, p'⟩, fun x H4 y => ?_⟩
    obtain ⟨e, y⟩ := y
    cases e
    exact one i x H3 (y xs sq) p
  · obtain rfl : i = xs.length := by omega
    exact .inl ⟨⟨xs, sq, Nat.le_refl _⟩, end' H3 p⟩
/-! ### d.get(key, other) -/
def tGetN (P : Program) (w : World) (td ty tx : TE) : TE := fun σ H Q => td σ H fun x H1 => ∃ a, x = .ref a ∧ (∃ kvs, DN P w H1 a kvs) ∧ ty σ H1 fun y H2 => tx σ H2 fun z H3 => ∃ b k kvs, y = .ref b ∧ NKey H3 k b ∧ DN P w H3 a kvs ∧ Q ((valV kvs k).getD z) H3
theorem pe_getN {o e f : Expr} {apos cpos : Pos} {td ty tx : TE} (hu : X.A.units + 20 < cLine) (ho : PE X o td) (he : PE X e ty) (hf : PE X f tx) (m : M2 X o "get" apos e f cpos) : PE X (.Call (.Attribute o "get" apos) [e, f] [] cpos) (tGetN X.prog X.w td ty tx) := ⟨fun pins s σ H Q I h => by
  refine wpAny_Call_method m.base m.few m.line PySem.F.plainAttrs_dict PySem.F.slot_dict_get PySem.F.type_dict_get (thn (ho.run pins s σ H _ I h) fun u s1 ⟨x, H1, I1, rx, a, ex, ⟨kvs1, d1⟩, q1⟩ => ?_)
  subst ex
  obtain rfl : u = Value.ref a := rx
  obtain ⟨xs1, _, _, _, dd1⟩ := d1.open I1.hok
  refine ⟨(Heap.DictKeyed.typeIs (s := s1) (knd := nestedKind X.prog X.w) (kvs := pairsH xs1) ⟨xs1, dd1, rfl⟩), ?t2, ?_⟩
  case t2 => intro c ec; cases ec; obtain ⟨o1, es, ep, h1, h2, _⟩ := dd1; exact ⟨o1, h1, h2.2.1⟩
  rw [m.trees]
  refine Calls.callWith_builtin rfl (Calls.evalArgs_plain (Calls.spliced_cons (thn (he.run pins s1 σ H1 _ I1 q1) fun iv s2 ⟨y, H2, I2, ry, q2⟩ =>
    Calls.spliced_cons (thn (hf.run pins s2 σ H2 _ I2 q2) fun fv s3 ⟨z, H3, I3, rz, b, k, kvs, ey, hk, hd, q3⟩ => Calls.spliced_nil ?_))))
  subst ey
  cases (show iv = Value.ref b from ry)
  obtain ⟨xs, zl, hs, rel, dd⟩ := hd.open I3.hok
  refine PySem.getOr_keyed (knd := nestedKind X.prog X.w) (by show X.A.units + 1 + 8 < cLine; omega) (hk.ok I3.hok) hs ⟨xs, dd, rfl⟩ ?_
  refine ⟨_, H3, I3.tok _, ?_, q3⟩
  rw [valueAt_pairsH]
  have r := rel.val k
  revert r
  cases valV kvs k <;> cases (atKey xs k).map (·.2) <;> intro r <;> first | exact rz | exact r.elim | exact r⟩
end
end Pw
namespace Pw
open PySem PySem.Spec PyProof.Rows L2
abbrev noSet (w : World) : Obj := { cls := .type "set", dict := none, data := .set #[] 0 (.fresh 0 0 (!w.params.followText "set-order")) }
section
variable {P : Program} {w : World} {A : Around} {E : Value → Shared → Prop} {s : Shared}
set_option maxHeartbeats 3200000 in
theorem set_of_list {l : Addr} {items : Array Value} (ns : List Int) {Q : Value → Shared → Prop} (calm : A.handled = none) (isl : s.heap.IsList l items) (areI : IntsAre items.toList ns) (small : ns.length + 1 < scanBound)
    (h : ∀ (h' : Heap) (tk c : Nat), SetR w h' s.heap.objs.size (fun j => decide (j ∈ ns)) c → (∀ b o, s.heap.get? b = some o → h'.get? b = some o) → Q (.ref s.heap.objs.size) { s with heap := h', toks := tk }) :
    wpAny (model P w) A (call (.type "set") [.ref l]) Q E s := by
  have len : items.size = ns.length := by rw [← Array.length_toList]; exact IntsAre.length areI
  obtain ⟨c0, c1, c2⟩ := F.called_set.mro
  have c3 := F.called_set.made
  have c4 := F.called_set.sub
  refine wpAny_call (codeAny_of_tree (show wpAny _ _ (callAny (.type "set") _) _ _ _ from wpAny_pure ⟨Code.quiet_builtin _ (by decide +kernel), codeAny_builtin F.entry_type_call ?_⟩))
  rw [Around.under_plain (weight_type_call_type "set" [.ref l] []) rfl]
  have c5 := F.called_set.notType
  have c6 := F.called_set.canCreate
  have c7 := F.typeCall_set_1 (.ref l)
  repeat (any_goals (first | assumption | wp_step))
  refine codeAny_mono (code_set_led1 (.ref l) (E := E) (Q₁ := fun x u => x = .ref s.heap.objs.size ∧ u = { s with heap := s.heap.push (noSet w) }) ⟨rfl, rfl⟩) fun r u hr => ?_
  rcases r with e | fl
  case error => exact hr
  case ok =>
    cases fl with
    | ret x =>
      obtain ⟨rfl, rfl⟩ := hr
      have here : (s.heap.push (noSet w)).get? s.heap.objs.size = some (noSet w) := Heap.get?_push_size _ rfl
      have typ : Shared.TypeIs { s with heap := s.heap.push (noSet w) } (.ref s.heap.objs.size) "set" := ⟨_, here, rfl⟩
      have i0 := F.called_set.init.lookup
      have i1 := F.called_set.init.bind (.ref s.heap.objs.size)
      repeat (any_goals (first | assumption | wp_step))
      refine codeAny_mono (codeAny_call_builtin (R := wants (fun x u => x = .none ∧ ∃ h' tk c, u = { s with heap := h', toks := tk } ∧ SetR w h' s.heap.objs.size (fun j => decide (j ∈ ns)) c ∧ (∀ b o, s.heap.get? b = some o → h'.get? b = some o)) E)
        F.called_set.init.plain F.entry_set_init (check_set_init_1 typ ?_)) fun r2 u2 hr2 => ?_
      · obtain ⟨⟨k1, k2, k3, k4⟩, get, e1, m, e2⟩ := isl
        simp only at e1 e2
        subst e1 e2
        have lt : l < s.heap.objs.size := Heap.lt_size get
        have isl2 : (s.heap.push (noSet w)).IsList l items := ⟨_, Heap.get?_push_of_some _ get, rfl, m, rfl⟩
        have get2 : (s.heap.push (noSet w)).get? l = some { cls := .type "list", dict := k2, data := .seq items m, slots := k4 } := Heap.get?_push_of_some _ get
        have f0 := F.sub_list_set
        have f1 := F.sub_list_frozenset
        have f2 : (Value.type "list" == Value.type "dict") = false := by decide
        unfold Builtin.«set.__init__» noKeywords Builtin.Frozenset.updateFrom
        generalize ePI : pyIter = PI
        wp_walk
        subst ePI
        refine wpAny_pyIter_list isl2 (wpAny_bind (wpAny_runValue ?_))
        have sz : (s.heap.push (noSet w)).objs.size = s.heap.objs.size + 1 := Heap.size_push ..
        have a1 : l ≠ (s.heap.push (noSet w)).objs.size := by rw [sz]; exact Nat.ne_of_lt (Nat.lt_succ_of_lt lt)
        have a2 : s.heap.objs.size ∉ [(s.heap.push (noSet w)).objs.size, l] := by
          rw [sz]; intro z
          rcases List.mem_cons.mp z with z | z
          · exact absurd z (Nat.ne_of_lt (Nat.lt_succ_self _))
          · exact absurd (List.mem_singleton.mp z) (Nat.ne_of_gt lt)
        refine set_update_ints ((Walks.list (A := A.in1.in1.in1) (by simp [calm]) _ l a1 items).toS) s.heap.objs.size a2 ns len small (fun i v hv => ?_) items.size 0 _ (by omega) (Nat.zero_le _) ?at0
          ?st fun s' c' mv _ R => ?_
        case at0 => exact ⟨⟨_, Heap.get?_push_size _ rfl, rfl, rfl⟩, isl2.push _⟩
        case st =>
          have z := Heap.get?_push_of_some { cls := .type "list_iterator", data := .fields #[.ref l, .int 0 0] } here
          exact ⟨0, Nat.le_refl 0, setR_new_at z⟩
        · have hi : i < ns.length := by rw [← len]; exact (Array.getElem?_eq_some_iff.mp hv).1
          obtain ⟨t, e⟩ := PyProof.Rows.IntsAre.int_at areI i v (by rw [Array.getElem?_toList]; exact hv)
          exact ⟨ns[i], t, List.getElem?_eq_getElem hi, by rw [e, List.getD_eq_getElem?_getD, List.getElem?_eq_getElem hi] <;> rfl⟩
        · obtain ⟨h', g', d', tk', os'⟩ := s'
          obtain rfl : g' = s.gens := mv.gens
          obtain rfl : d' = s.drawn := mv.drawn
          obtain rfl : os' = s.os := mv.os
          show wpAny _ _ _ _ _ _
          refine wpAny_pure (show wpAny _ _ (ret Value.none) _ _ _ from wpAny_pure ⟨rfl, h', tk', c', rfl, R, fun b o e => ?_⟩)
          have b0 : b < s.heap.objs.size := Heap.lt_size e
          refine mv.heap b o (fun z => ?_) (Heap.get?_push_of_some _ (Heap.get?_push_of_some _ e))
          rcases List.mem_cons.mp z with z | z
          · exact absurd z (Nat.ne_of_lt b0)
          · have z := List.mem_singleton.mp z
            rw [sz] at z
            exact absurd z (Nat.ne_of_lt (Nat.lt_succ_of_lt b0))
      · rcases r2 with e2 | fl2
        case error => exact hr2
        case ok =>
          cases fl2 with
          | ret x =>
            obtain ⟨rfl, h', tk, c, rfl, R, keep⟩ := hr2
            repeat (any_goals (first | assumption | wp_step))
            exact h _ _ _ R keep
          | _ => exact hr2.elim
    | _ => exact hr.elim
end
end Pw
namespace Pw
open PySem PySem.Spec PyProof.Rows L2
theorem intsOf_len (ns : List Nat) : (intsOf ns).length = ns.length := by unfold intsOf; rw [List.length_map]
/-- the first page of a drawn context -/
theorem Pc.good0 {g : Pq} {st pres : List Nat} (gok : g.Ok) (hst : ∀ n ∈ st, n < 1000) (hsl : st.length ≤ 2) (hp : ∀ k ∈ pres, k < g.parts.length) (hpl : pres.length ≤ 2) : Pc.Good ⟨g, intsOf st, [], pres⟩ :=
  ⟨⟨gok, intsOf_sm hst, by show (intsOf st).length ≤ 2; rw [intsOf_len]; exact hsl, by simp, by simp, hp, hpl⟩, by simp⟩
theorem page_facts {X : Pc} (h : X.Good) : Nd.hts (fill X 12 [] (X.sc [] 0 []) (X.comp 0).cs []) ≤ 12 ∧ Nd.cnts (fill X 12 [] (X.sc [] 0 []) (X.comp 0).cs []) ≤ 70000 ∧ Nd.Poks (fill X 12 [] (X.sc [] 0 []) (X.comp 0).cs []) := by
  have c := h.comp (Nat.zero_le _)
  refine ⟨fill_ht X 12 _ _ _ _, ?_, fill_pok h.toOk 12 0 true [] _ _ [] (Nat.zero_le _) c.oks c.deps PathOk.nil PathOk.nil (by simp)⟩
  have h1 := fill_cnt h.toOk 12 0 true [] (X.sc [] 0 []) (X.comp 0).cs [] (Nat.zero_le _) c.oks
  have h2 := Tp.insts_le _ c.echs
  have h3 := c.cnts
  have h4 : Tp.insts (X.comp 0).cs ≤ 40 := by omega
  have h5 := Nat.mul_le_mul_right (below (X.g.comps.length - 1) 0) h4
  have h6 := below_tot (X.g.comps.length - 1) 0
  have h7 : tot (X.g.comps.length - 1 - 0) ≤ tot 2 := tot_mono (by have := h.g.many; omega)
  have h8 : tot 2 = 65640 := by decide
  omega
theorem fieldOf_pok {l : List Nd} (h : Nd.Poks l) : ∀ x ∈ fieldOf l, PathOk x.1 := by
  intro x hx
  unfold fieldOf at hx
  cases e : l.getLast? with
  | none => rw [e] at hx; cases hx
  | some n =>
    rw [e] at hx
    have hm := poks_mem h n (List.mem_of_getLast? e)
    cases n with
    | input p t o c v => cases hx; exact hm.2
    | _ => cases hx
theorem poks_rev {l : List Nd} (h : Nd.Poks l) : Nd.Poks l.reverse := poks_of fun n hn => poks_mem h n (List.mem_reverse.mp hn)
theorem pathT_ref {H : Hp} {p : Path} {v : V} (h : IsT H (pathT p) v) : ∃ a xs, v = .ref a ∧ H a = some (.tup xs) := let ⟨a, xs, e, e2, _⟩ := h.inv; ⟨a, xs, e, e2⟩
end Pw
namespace Pw
open PySem PySem.Spec PyProof.Rows L2
theorem nodup_le : ∀ (l D : List Int), l.Nodup → (∀ x ∈ l, x ∈ D) → l.length ≤ D.length
  | [], D, _, _ => Nat.zero_le _
  | x :: l, D, nd, h => by
    have hx := h x (by simp)
    have nx := List.nodup_cons.mp nd
    have z := nodup_le l (D.erase x) nx.2 (fun y hy => (List.mem_erase_of_ne (fun (e : y = x) => nx.1 (e ▸ hy))).mpr (h y (by simp [hy])))
    rw [List.length_erase_of_mem hx] at z
    have := List.length_pos_of_mem hx
    simp only [List.length_cons]
    omega
section
variable {X : Cx}
/-- set(l) of a list of ints -/
def rSetI (w : World) : List V → Hp → VK → Prop := fun vs H Q => ∃ (l : Addr) (ns : List Int), vs = [V.ref l] ∧ H l = some (.lst (ns.map V.int)) ∧ ns.length < 4000 ∧ ∀ p c, H p = none → (∀ D : List Int, (∀ j ∈ ns, j ∈ D) → c ≤ D.length) → Q (.ref p) (upd H p (SetO w p (fun j => decide (j ∈ ns)) c))
theorem cr_setI (hc : X.calm = true) : CallR X (.type "set") (rSetI X.w) := by
  intro pins s σ H vs us Q I r h
  obtain ⟨l, ns, rfl, hl, small, q⟩ := h
  rw [Vals.ref1 r]
  obtain ⟨z, its, n, rv, hlen, e⟩ := I.lstM hl
  refine set_of_list (A := X.A) ns (I.ok.hd hc) ⟨_, e, rfl, n, rfl⟩ (ints_of_vals rv) (Nat.lt_trans (Nat.add_lt_add_right small 1) (by decide)) fun h' tk c R keep => ?_
  refine ⟨.ref _, _, I.laid (t' := tk) keep (Nat.le_refl _) (setO_new R), rfl, q _ c (I.hok.fresh (Nat.le_refl _)) fun D hD => ?_⟩
  obtain ⟨o, es, ep, t, _, _, _, _, nd, mem, _, _, sz, _⟩ := R
  have z := nodup_le _ D nd fun x hx => hD x (by simpa using (mem x).mpr hx)
  rw [List.length_map, Array.length_toList] at z
  omega
end
/-! ### parts once -/
mutual
theorem Tp.dis1_pts : ∀ (t : Tp) (c : Sc) (addr reps : List Int), ∀ d ∈ t.dis1 c addr reps, d.tp.pts.Sublist t.pts
  | .when e cs os, c, addr, reps, d, h => by
    simp only [Tp.dis1] at h
    simp only [Tp.pts]
    split at h
    · exact (Tp.dis_pts os c _ reps 0 d h).trans (List.sublist_append_right _ _)
    · exact (Tp.dis_pts cs c _ reps 0 d h).trans (List.sublist_append_left _ _)
  | .each e cs, c, addr, reps, d, h => by
    simp only [Tp.dis1, List.mem_flatMap] at h
    obtain ⟨n, _, h⟩ := h
    exact Tp.dis_pts cs _ addr _ 0 d h
  | .text _, c, addr, reps, d, h | .show _, c, addr, reps, d, h | .input _ _, c, addr, reps, d, h | .part _, c, addr, reps, d, h | .box _ _ _ _, c, addr, reps, d, h | .child _ _ _, c, addr, reps, d, h => by
    simp only [Tp.dis1, List.mem_singleton] at h
    subst h
    exact List.Sublist.refl _
theorem Tp.dis_pts : ∀ (ts : List Tp) (c : Sc) (before reps : List Int) (k : Nat), ∀ d ∈ Tp.dis c before reps k ts, d.tp.pts.Sublist (Tp.ptss ts)
  | [], c, before, reps, k, d, h => nomatch h
  | t :: ts, c, before, reps, k, d, h => by
    simp only [Tp.dis, List.mem_append] at h
    simp only [Tp.ptss]
    rcases h with h | h
    · exact (Tp.dis1_pts t c _ reps d h).trans (List.sublist_append_left _ _)
    · exact (Tp.dis_pts ts c before reps (k + 1) d h).trans (List.sublist_append_right _ _)
end
/-! ### what was told -/
def lastOf : List (Path × List Int) → Path → Option (List Int)
  | [], _ => none
  | it :: r, p => (lastOf r p).or (if it.1 = p then some it.2 else none)
theorem lastOf_app (b : List (Path × List Int)) (p : Path) : ∀ a : List (Path × List Int), lastOf (a ++ b) p = (lastOf b p).or (lastOf a p)
  | [] => by simp [lastOf]
  | it :: a => by simp only [List.cons_append, lastOf, lastOf_app b p a, Option.or_assoc]
theorem lastOf_fold (p : Path) : ∀ (cs : List (Path × List Int)) (z : List Int), cs.foldl (fun acc it => if it.1 = p then it.2 else acc) z = (lastOf cs p).getD z
  | [], z => rfl
  | it :: r, z => by
    rw [List.foldl_cons, lastOf_fold p r, lastOf]
    cases lastOf r p <;> by_cases e : it.1 = p <;> simp [e]
def RelT (H : Hp) : Option (List Int) → Option V → Prop
  | none, none => True
  | some xs, some v => IsT H (intsT xs) v
  | _, _ => False
theorem RelT.oth {H H' : Hp} {S : List Addr} {a : Option (List Int)} {b : Option V} (h : RelT H a b) (o : Oth S H H') : RelT H' a b := by
  cases a <;> cases b <;> first | exact h | exact IsT.oth h o
def Told (H : Hp) (cs : List (Path × List Int)) (kvs : List (NestedKey × V)) : Prop := ∀ p : Path, RelT H (lastOf cs p) (valV kvs (pathT p).nk)
theorem Told.nil {H : Hp} : Told H [] [] := fun p => True.intro
theorem Told.put {H : Hp} {cs : List (Path × List Int)} {kvs : List (NestedKey × V)} (h : Told H cs kvs) {p : Path} {xs : List Int} {v : V} (t : IsT H (intsT xs) v) : Told H (cs ++ [(p, xs)]) (putK kvs (pathT p).nk v) := fun q => by
  rw [lastOf_app, valV_put]
  by_cases e : p = q
  · subst e
    simp only [lastOf, if_true, Option.or_some, Option.or]
    exact t
  · have e' : ¬ (pathT q).nk = (pathT p).nk := fun z => e (path_nk.mp z).symm
    simp only [lastOf, if_neg e, if_neg e', Option.or]
    exact h q
theorem Told.oth {H H' : Hp} {S : List Addr} {cs : List (Path × List Int)} {kvs : List (NestedKey × V)} (h : Told H cs kvs) (o : Oth S H H') : Told H' cs kvs := fun p => (h p).oth o
theorem path_depth : ∀ p : Path, NestedKey.depthAll (T.nks (p.map Nm.toT)) ≤ 3
  | [] => by simp [T.nks, NestedKey.depthAll]
  | n :: p => by
    have h := path_depth p
    cases n <;> simp only [List.map_cons, Nm.toT, intsT, T.nks, T.nk, NestedKey.depthAll, NestedKey.depth, nk_depths_int] <;> omega
theorem path_nobs : ∀ p : Path, T.nobs (p.map Nm.toT) = true
  | [] => rfl
  | n :: p => by simp only [List.map_cons, T.nobs, Nm.nob, path_nobs p, Bool.and_self]
theorem path_nob (p : Path) : (pathT p).nob = true := path_nobs p
/-- the key of a path is that path -/
theorem key_path {H : Hp} {p : Path} {b : Addr} (h : NKey H (pathT p).nk b) : IsT H (pathT p) (.ref b) := by
  obtain ⟨t, e, i, _, z⟩ := h
  rw [nk_one t (pathT p) z (path_nob p) e] at i
  exact i
theorem path_key {H : Hp} {p : Path} {v : V} (h : IsT H (pathT p) v) : ∃ b, v = .ref b ∧ NKey H (pathT p).nk b := by
  obtain ⟨b, xs, rfl, _⟩ := h.inv
  refine ⟨b, rfl, _, rfl, h, ?_, path_nob p⟩
  have := path_depth p
  simp only [pathT, T.nk, NestedKey.depth]
  omega
/-! ### what a page is made from -/
structure Given (P : Program) (w : World) (H : Hp) (ga td : Addr) (X : Pc) : Prop where
  ex : ∃ vp vs vr kvs, H ga = some (.tup [vp, vs, .ref td, vr]) ∧ IsT H X.g.toT vp ∧ IsT H (intsT X.st) vs ∧ DN P w H td kvs ∧ Told H X.cs kvs ∧ IsT H (natsT X.pres) vr
section
variable {P : Program} {w : World} {H H' : Hp} {ga td : Addr} {X : Pc}
theorem Given.oth {S : List Addr} (h : Given P w H ga td X) (o : Oth S H H') (n : td ∉ S) : Given P w H' ga td X := by
  obtain ⟨vp, vs, vr, kvs, e, a, b, d, t, r⟩ := h.ex
  exact ⟨_, _, _, kvs, o.tup _ _ e, a.oth o, b.oth o, d.oth o n, t.oth o, r.oth o⟩
theorem Given.nl (h : Given P w H ga td X) {l : Addr} {L : List V} (e : H l = some (.lst L)) : td ≠ l := by
  obtain ⟨vp, vs, vr, kvs, _, a, b, d, t, r⟩ := h.ex
  obtain ⟨φ, z⟩ := d.is
  intro ee
  rw [ee, e] at z
  cases z
theorem Given.nn (h : Given P w H ga td X) {l : Addr} (e : H l = none) : td ≠ l := by
  obtain ⟨vp, vs, vr, kvs, _, a, b, d, t, r⟩ := h.ex
  exact d.ne e
end
def compT (X : Pc) (n : Nat) (p : Path) (d : Nat) (props : List Int) : T := .tup [intsT (X.reads (lkAll n (X.sc p d props) (X.comp d).cs)), .tup (Nd.toTs (fill X n p (X.sc p d props) (X.comp d).cs p))]
def spMkComp (P : Program) (w : World) (n : Nat) : Sp := fun vs H Q _ => ∃ (X : Pc) (d : Nat) (p : Path) (props : List Int) (vp vq : V) (ga td : Addr), vs = [.ref ga, .int (d : Int), vp, vq] ∧ Given P w H ga td X ∧ X.Good ∧ IsT H (pathT p) vp ∧ IsT H (intsT props) vq ∧
  d ≤ X.g.comps.length - 1 ∧ Sm props ∧ 3 + 4 * (X.g.comps.length - 1 - d) < n ∧ PathOk p ∧ p.length + n ≤ 400 ∧
  ∀ v H', IsT H' (compT X n p d props) v → Oth [] H H' → Q v H'
def spMkChild (P : Program) (w : World) (n : Nat) : Sp := fun vs H Q _ => ∃ (X : Pc) (d : Nat) (p : Path) (props : List Int) (vp vq : V) (ga td : Addr), vs = [.ref ga, .int (d : Int), vp, vq] ∧ Given P w H ga td X ∧ X.Good ∧ IsT H (pathT p) vp ∧ IsT H (intsT props) vq ∧
  d ≤ X.g.comps.length - 1 ∧ Sm props ∧ 3 + 4 * (X.g.comps.length - 1 - d) < n ∧ PathOk p ∧ p.length + n ≤ 400 ∧
  ∀ v H', IsT H' (child X n p d props).toT v → Oth [] H H' → Q v H'
def spMkPart (P : Program) (w : World) (n : Nat) : Sp := fun vs H Q _ => ∃ (X : Pc) (kp : Nat) (p : Path) (o : Path) (c : Sc) (vp : V) (ga td : Addr), vs = [.ref ga, .int (kp : Int), vp] ∧ Given P w H ga td X ∧ X.Good ∧ IsT H (pathT p) vp ∧
  4 * (X.g.comps.length - 1) ≤ n ∧ PathOk p ∧ p.length + n ≤ 400 ∧
  ∀ v H', IsT H' (nodeOf X (fill X n) (lkAll n) o c p (.part kp)).toT v → Oth [] H H' → Q v H'
def spMkNode (P : Program) (w : World) (n : Nat) : Sp := fun vs H Q _ => ∃ (X : Pc) (own D : Nat) (free : Bool) (o p : Path) (c : Sc) (t : Tp) (vt vo vp vc : V) (ga td l : Addr) (L : List V), vs = [.ref ga, vt, vo, vp, vc, .ref l] ∧ Given P w H ga td X ∧ X.Good ∧ IsT H (pathT o) vo ∧ IsT H (pathT p) vp ∧
  IsT H c.toT vc ∧ H l = some (.lst L) ∧ IsT H t.toT vt ∧ c.Sm ∧ own ≤ X.g.comps.length - 1 ∧ t.node = true ∧ t.Ok own (X.g.comps.length - 1) free ∧ t.pts.Nodup ∧ t.wt ≤ 600 ∧ t.dep ≤ D ∧ D ≤ 3 ∧ D + 4 * (X.g.comps.length - 1 - own) ≤ n ∧
  L.length + (D + 1) * t.wt ≤ 40000 ∧ PathOk p ∧ p.length + n ≤ 400 ∧
  ∀ v H', IsT H' (nodeOf X (fill X n) (lkAll n) o c p t).toT v → H' l = some (.lst (L ++ (nodeLk (lkAll n) c t).map V.int)) → Oth [l] H H' → Q v H'
def spMkNodes (P : Program) (w : World) (n : Nat) : Sp := fun vs H Q _ => ∃ (X : Pc) (own : Nat) (free : Bool) (o p : Path) (c : Sc) (ts : List Tp) (vt vo vp vc : V) (ga td l : Addr) (L : List V), vs = [.ref ga, vt, vo, vp, vc, .ref l] ∧ Given P w H ga td X ∧ X.Good ∧ IsT H (pathT o) vo ∧ IsT H (pathT p) vp ∧
  IsT H c.toT vc ∧ H l = some (.lst L) ∧ IsT H (.tup (Tp.toTs ts)) vt ∧ c.Sm ∧ own ≤ X.g.comps.length - 1 ∧ Tp.Oks own (X.g.comps.length - 1) free ts ∧ (Tp.ptss ts).Nodup ∧ Tp.wts ts ≤ 600 ∧ Tp.deps ts ≤ 3 ∧ rank (X.g.comps.length - 1) own ts < n ∧
  L.length + (Tp.deps ts + 2) * Tp.wts ts ≤ 40000 ∧ PathOk p ∧ p.length + n ≤ 400 ∧
  ∀ v H', IsT H' (.tup (Nd.toTs (fill X n o c ts p))) v → H' l = some (.lst (L ++ (lkAll n c ts).map V.int)) → Oth [l] H H' → Q v H'
def spMkPage (n : Nat) : Sp := fun vs H Q _ => ∃ (X : Pc) (vp vs' vc vr : V), vs = [vp, vs', vc, vr] ∧ IsT H X.g.toT vp ∧ IsT H (intsT X.st) vs' ∧ IsT H (cellsT X.cs) vc ∧ IsT H (natsT X.pres) vr ∧ X.Good ∧ 3 + 4 * (X.g.comps.length - 1) < n ∧ n ≤ 400 ∧
  ∀ v H', IsT H' (compT X n [] 0 []) v → Oth [] H H' → Q v H'
theorem bo_set : bootBuiltins "set" = some (.type "set") := by decide +kernel
theorem bo_sorted : bootBuiltins "sorted" = some (.builtin "sorted") := by decide +kernel
/-! ### what a component reads -/
theorem asc_eq : ∀ {a b : List Int}, a.Pairwise (· < ·) → b.Pairwise (· < ·) → (∀ x, x ∈ a ↔ x ∈ b) → a = b
  | [], [], _, _, _ => rfl
  | [], y :: b, _, _, h => by have := (h y).mpr (by simp); simp at this
  | x :: a, [], _, _, h => by have := (h x).mp (by simp); simp at this
  | x :: a, y :: b, pa, pb, h => by
    obtain ⟨a1, a2⟩ := List.pairwise_cons.mp pa
    obtain ⟨b1, b2⟩ := List.pairwise_cons.mp pb
    have exy : x = y := by
      rcases List.mem_cons.mp ((h x).mp (by simp)) with e | e
      · exact e
      · rcases List.mem_cons.mp ((h y).mpr (by simp)) with e' | e'
        · exact e'.symm
        · have := b1 x e; have := a1 y e'; omega
    subst exy
    rw [asc_eq a2 b2 fun z => ?_]
    constructor
    · intro hz
      rcases List.mem_cons.mp ((h z).mp (by simp [hz])) with e | e
      · have := a1 z hz; omega
      · exact e
    · intro hz
      rcases List.mem_cons.mp ((h z).mpr (by simp [hz])) with e | e
      · have := b1 z hz; omega
      · exact e
def InR (m : Nat) (l : List Int) : Prop := ∀ k ∈ l, ∃ i : Nat, k = (i : Int) ∧ i < m
theorem InR.app {m : Nat} {a b : List Int} (x : InR m a) (y : InR m b) : InR m (a ++ b) := fun k h => (List.mem_append.mp h).elim (x k) (y k)
theorem InR.nil {m : Nat} : InR m [] := fun k h => nomatch h
theorem InR.flat {α : Type} {m : Nat} {f : α → List Int} {l : List α} (h : ∀ x ∈ l, InR m (f x)) : InR m (l.flatMap f) := fun k hk => by
  obtain ⟨x, hx, hk⟩ := List.mem_flatMap.mp hk
  exact h x hx k hk
theorem looks_in (c : Sc) : ∀ e : E, InR c.store.length (e.looks c)
  | .plus a b | .minus a b | .same a b | .less a b => (looks_in c a).app (looks_in c b)
  | .ite q a b => by
    simp only [E.looks]
    refine (looks_in c q).app ?_
    split
    · exact looks_in c b
    · exact looks_in c a
  | .store i => by
    simp only [E.looks]
    split
    · intro k hk; exact ⟨i, List.mem_singleton.mp hk, ‹_›⟩
    · exact .nil
  | .num _ | .cell _ | .prop _ | .index => .nil
theorem keyLooks_in (c : Sc) (k : Option E) : InR c.store.length (keyLooks c k) := by
  cases k with
  | none => exact .nil
  | some e => exact looks_in c e
mutual
theorem Tp.lk1_in : ∀ (t : Tp) (c : Sc), InR c.store.length (t.lk1 c)
  | .when e cs os, c => by
    simp only [Tp.lk1]
    refine (looks_in c e).app ?_
    split
    · exact Tp.lks_in os c
    · exact Tp.lks_in cs c
  | .each e cs, c => by
    simp only [Tp.lk1]
    exact (looks_in c e).app (.flat fun n _ => Tp.lks_in cs { c with index := (n : Int) })
  | .box _ key _ _, c => keyLooks_in c key
  | .child _ key _, c => keyLooks_in c key
  | .text _, c | .show _, c | .part _, c | .input _ _, c => .nil
theorem Tp.lks_in : ∀ (ts : List Tp) (c : Sc), InR c.store.length (Tp.lks c ts)
  | [], c => .nil
  | t :: ts, c => (Tp.lk1_in t c).app (Tp.lks_in ts c)
end
theorem lkAll_in : ∀ (n : Nat) (c : Sc) (ts : List Tp), InR c.store.length (lkAll n c ts)
  | 0, c, ts => .nil
  | n + 1, c, ts => by
    simp only [lkAll]
    refine (Tp.lks_in ts c).app (.flat fun it _ => ?_)
    cases it.2.1 with
    | «show» e => exact looks_in { c with index := it.2.2 } e
    | box _ _ _ cs => exact lkAll_in n { c with index := it.2.2 } cs
    | child _ _ props => exact .flat fun e _ => looks_in { c with index := it.2.2 } e
    | _ => exact .nil
theorem range_asc (m : Nat) : ((List.range m).map Int.ofNat).Pairwise (· < ·) := by
  rw [List.pairwise_map]
  exact List.pairwise_lt_range.imp fun h => Int.ofNat_lt.mpr h
theorem reads_eq {X : Pc} {lk ns : List Int} (h : InR X.st.length lk) (asc : ns.Pairwise (· < ·)) (mem : ∀ k : Int, k ∈ ns ↔ decide (k ∈ lk) = true) : ns = X.reads lk := by
  refine asc_eq asc ?_ fun x => ?_
  · unfold Pc.reads
    exact (range_asc _).sublist ((List.filter_sublist).map _)
  · rw [mem, decide_eq_true_iff]
    unfold Pc.reads
    rw [List.mem_map]
    constructor
    · intro hx
      obtain ⟨i, rfl, hi⟩ := h x hx
      exact ⟨i, List.mem_filter.mpr ⟨List.mem_range.mpr hi, decide_eq_true hx⟩, rfl⟩
    · rintro ⟨i, hi, rfl⟩
      exact of_decide_eq_true (List.mem_filter.mp hi).2
end Pw
namespace Pw
open PySem PySem.Spec PyProof.Rows L2
/-! ### sight -/
mutual
def Nd.see : Nd → List T
  | .text _ s => [.tup [.str "text", .str s]]
  | .box _ tag _ _ ns => [.tup [.str "box", .str tag, .tup (Nd.sees ns)]]
  | .input _ tag _ _ v => [.tup [.str "input", .str tag, .int v]]
  | .child _ _ _ _ ns => Nd.sees ns
  | .place _ _ => []
def Nd.sees : List Nd → List T
  | [] => []
  | n :: ns => n.see ++ Nd.sees ns
end
theorem sees_app (b : List Nd) : ∀ a : List Nd, Nd.sees (a ++ b) = Nd.sees a ++ Nd.sees b
  | [] => rfl
  | n :: a => by simp only [List.cons_append, Nd.sees, sees_app b a, List.append_assoc]
mutual
theorem Nd.see_sh : ∀ n : Nd, Nd.sees n.sh1 = n.see
  | .text _ _ => rfl
  | .box _ _ _ _ ns => by simp only [Nd.sh1, Nd.sees, Nd.see, Nd.sees_shs ns, List.append_nil]
  | .input _ _ _ _ _ => rfl
  | .child _ _ _ _ ns => by simp only [Nd.sh1, Nd.see, Nd.sees_shs ns]
  | .place _ _ => rfl
theorem Nd.sees_shs : ∀ ns : List Nd, Nd.sees (Nd.shs ns) = Nd.sees ns
  | [] => rfl
  | n :: ns => by simp only [Nd.shs, sees_app, Nd.sees, Nd.see_sh n, Nd.sees_shs ns]
end
mutual
theorem Nd.see_len : ∀ n : Nd, n.see.length ≤ n.cnt
  | .text _ _ | .input _ _ _ _ _ | .place _ _ => by simp [Nd.see, Nd.cnt]
  | .box _ _ _ _ ns => by simp only [Nd.see, Nd.cnt, List.length_singleton]; omega
  | .child _ _ _ _ ns => by have := Nd.sees_len ns; simp only [Nd.see, Nd.cnt]; omega
theorem Nd.sees_len : ∀ ns : List Nd, (Nd.sees ns).length ≤ Nd.cnts ns
  | [] => Nat.le_refl _
  | n :: ns => by have := Nd.see_len n; have := Nd.sees_len ns; simp only [Nd.sees, Nd.cnts, List.length_append]; omega
end
mutual
theorem Nd.see_dep : ∀ (n : Nd) (k : Nat), 2 * n.ht + 4 ≤ k → n.cnt ≤ 100000 → ∀ t ∈ n.see, Dep k t
  | .text _ _, k, h, hc, t, ht => by
    simp only [Nd.see, List.mem_singleton] at ht
    subst ht
    obtain ⟨k, rfl⟩ : ∃ j, k = j + 2 := ⟨k - 2, by omega⟩
    exact .tup _ _ (by simp) (by simp only [List.mem_cons, List.not_mem_nil, or_false, forall_eq_or_imp, forall_eq]; exact ⟨.str _ _, .str _ _⟩)
  | .input _ _ _ _ _, k, h, hc, t, ht => by
    simp only [Nd.see, List.mem_singleton] at ht
    subst ht
    obtain ⟨k, rfl⟩ : ∃ j, k = j + 2 := ⟨k - 2, by omega⟩
    exact .tup _ _ (by simp) (by simp only [List.mem_cons, List.not_mem_nil, or_false, forall_eq_or_imp, forall_eq]; exact ⟨.str _ _, .str _ _, .int _ _⟩)
  | .place _ _, k, h, hc, t, ht => by simp [Nd.see] at ht
  | .child _ _ _ _ ns, k, h, hc, t, ht => Nd.sees_dep ns k (by simp only [Nd.ht] at h; omega) (by simp only [Nd.cnt] at hc; omega) t ht
  | .box _ _ _ _ ns, k, h, hc, t, ht => by
    simp only [Nd.see, List.mem_singleton] at ht
    subst ht
    simp only [Nd.ht] at h
    simp only [Nd.cnt] at hc
    obtain ⟨k, rfl⟩ : ∃ j, k = j + 2 := ⟨k - 2, by omega⟩
    have hl := Nd.sees_len ns
    exact .tup _ _ (by simp) (by simp only [List.mem_cons, List.not_mem_nil, or_false, forall_eq_or_imp, forall_eq]; exact ⟨.str _ _, .str _ _, .tup _ _ (by omega) (Nd.sees_dep ns k (by omega) (by omega))⟩)
theorem Nd.sees_dep : ∀ (ns : List Nd) (k : Nat), 2 * Nd.hts ns + 4 ≤ k → Nd.cnts ns ≤ 100000 → ∀ t ∈ Nd.sees ns, Dep k t
  | [], k, h, hc, t, ht => nomatch ht
  | n :: ns, k, h, hc, t, ht => by
    simp only [Nd.hts] at h
    simp only [Nd.cnts] at hc
    simp only [Nd.sees, List.mem_append] at ht
    rcases ht with ht | ht
    · exact Nd.see_dep n k (by omega) (by omega) t ht
    · exact Nd.sees_dep ns k (by omega) (by omega) t ht
end
/-! ### who is there -/
abbrev Who := Path × Nat × List Int × List Int
mutual
def Nd.ppl : Nd → List Who
  | .box _ _ _ _ ns => Nd.ppls ns
  | .child p c ps rs ns => (p, c, ps, rs) :: Nd.ppls ns
  | _ => []
def Nd.ppls : List Nd → List Who
  | [] => []
  | n :: ns => n.ppl ++ Nd.ppls ns
end
def whoT (x : Who) : T := .tup [pathT x.1, .int (x.2.1 : Int), intsT x.2.2.1, intsT x.2.2.2]
theorem ppls_app (b : List Nd) : ∀ a : List Nd, Nd.ppls (a ++ b) = Nd.ppls a ++ Nd.ppls b
  | [] => rfl
  | n :: a => by simp only [List.cons_append, Nd.ppls, ppls_app b a, List.append_assoc]
mutual
theorem Nd.ppl_len : ∀ n : Nd, n.ppl.length ≤ n.cnt
  | .text _ _ | .input _ _ _ _ _ | .place _ _ => by simp [Nd.ppl]
  | .box _ _ _ _ ns => by have := Nd.ppls_len ns; simp only [Nd.ppl, Nd.cnt]; omega
  | .child _ _ _ _ ns => by have := Nd.ppls_len ns; simp only [Nd.ppl, Nd.cnt, List.length_cons]; omega
theorem Nd.ppls_len : ∀ ns : List Nd, (Nd.ppls ns).length ≤ Nd.cnts ns
  | [] => Nat.le_refl _
  | n :: ns => by have := Nd.ppl_len n; have := Nd.ppls_len ns; simp only [Nd.ppls, Nd.cnts, List.length_append]; omega
end
mutual
/-- children of components that there are, with few props and reads -/
def Nd.Kid (m : Nat) : Nd → Prop
  | .box _ _ _ _ ns => Nd.Kids m ns
  | .child _ c ps rs ns => c ≤ m ∧ ps.length ≤ 2 ∧ rs.length ≤ 2 ∧ Nd.Kids m ns
  | _ => True
def Nd.Kids (m : Nat) : List Nd → Prop
  | [] => True
  | n :: ns => n.Kid m ∧ Nd.Kids m ns
end
theorem kids_of {m : Nat} : ∀ {a : List Nd}, (∀ n ∈ a, n.Kid m) → Nd.Kids m a
  | [], _ => trivial
  | n :: a, h => ⟨h n List.mem_cons_self, kids_of fun x hx => h x (List.mem_cons_of_mem _ hx)⟩
mutual
theorem Nd.kid_shn {m : Nat} : ∀ n : Nd, n.Shn → n.Kid m
  | .text _ _, _ | .input _ _ _ _ _, _ => trivial
  | .box _ _ _ _ ns, h => Nd.kids_shns ns h
  | .child _ _ _ _ _, h => h.elim
  | .place _ _, h => h.elim
theorem Nd.kids_shns {m : Nat} : ∀ ns : List Nd, Nd.Shns ns → Nd.Kids m ns
  | [], _ => trivial
  | n :: ns, h => ⟨Nd.kid_shn n h.1, Nd.kids_shns ns h.2⟩
end
theorem reads_len (X : Pc) (lk : List Int) : (X.reads lk).length ≤ X.st.length := by
  unfold Pc.reads
  rw [List.length_map]
  exact Nat.le_trans (List.length_filter_le _ _) (by rw [List.length_range]; omega)
theorem fill_kid {X : Pc} (h : X.Ok) : ∀ (n own : Nat) (free : Bool) (o : Path) (c : Sc) (ts : List Tp) (p : Path), own ≤ X.g.comps.length - 1 → Tp.Oks own (X.g.comps.length - 1) free ts → Nd.Kids (X.g.comps.length - 1) (fill X n o c ts p)
  | 0, _, _, _, _, _, _, _, _ => trivial
  | n + 1, own, free, o, c, ts, p, ho, hk => by
    have kid : ∀ (q : Path) (d : Nat) (props : List Int), d ≤ X.g.comps.length - 1 → props.length ≤ 2 → (childOf X (fill X n) (lkAll n) q d props).Kid (X.g.comps.length - 1) := fun q d props h2 h3 =>
      ⟨h2, h3, Nat.le_trans (reads_len X _) h.sl, fill_kid h n d true q _ _ q h2 (h.comp h2).oks⟩
    refine kids_of fun nd hnd => ?_
    simp only [fill] at hnd
    obtain ⟨it, hit, rfl⟩ := List.mem_map.mp hnd
    obtain ⟨dd, hdd, h1, h2⟩ := lawNamed_tp _ _ it hit
    obtain ⟨a1, ⟨fr, a2⟩, a3, a4⟩ := Tp.dis_ok ts c [] [] 0 hk dd hdd
    rw [← h1] at a1 a2 a3
    generalize it.2.1 = t at a1 a2 a3
    cases t with
    | when _ _ _ => cases a1
    | each _ _ => cases a1
    | text s => trivial
    | «show» s => trivial
    | input _ _ => trivial
    | box tag key act cs => exact fill_kid h n own fr o { c with index := it.2.2 } cs (p ++ [it.1]) ho a2.2.2.2
    | child d key props => exact kid _ d _ a2.2.1 (by rw [List.length_map]; exact a2.2.2.2.1)
    | part k =>
      simp only [nodeOf]
      split
      · rename_i hin
        have hk := h.pres k hin
        have hp := h.g.parts _ (List.getElem_mem hk)
        have e3 : X.g.parts.getD k 0 = X.g.parts[k] := by rw [List.getD_eq_getElem?_getD, List.getElem?_eq_getElem hk]; rfl
        rw [e3]
        exact kid _ _ _ (by omega) (by simp)
      · trivial
def Who.Ok (m : Nat) (x : Who) : Prop := PathOk x.1 ∧ x.2.1 ≤ m ∧ x.2.2.1.length ≤ 2 ∧ x.2.2.2.length ≤ 2
mutual
theorem Nd.ppl_ok {m : Nat} : ∀ n : Nd, n.Pok → n.Kid m → ∀ x ∈ n.ppl, Who.Ok m x
  | .text _ _, _, _, x, hx | .input _ _ _ _ _, _, _, x, hx | .place _ _, _, _, x, hx => by simp [Nd.ppl] at hx
  | .box _ _ _ _ ns, hp, hk, x, hx => Nd.ppls_ok ns hp.2.2 hk x hx
  | .child p c ps rs ns, hp, hk, x, hx => by
    simp only [Nd.ppl, List.mem_cons] at hx
    rcases hx with rfl | hx
    · exact ⟨hp.1, hk.1, hk.2.1, hk.2.2.1⟩
    · exact Nd.ppls_ok ns hp.2 hk.2.2.2 x hx
theorem Nd.ppls_ok {m : Nat} : ∀ ns : List Nd, Nd.Poks ns → Nd.Kids m ns → ∀ x ∈ Nd.ppls ns, Who.Ok m x
  | [], _, _, x, hx => nomatch hx
  | n :: ns, hp, hk, x, hx => by
    simp only [Nd.ppls, List.mem_append] at hx
    rcases hx with hx | hx
    · exact Nd.ppl_ok n hp.1 hk.1 x hx
    · exact Nd.ppls_ok ns hp.2 hk.2 x hx
end
theorem Who.dep {m : Nat} {x : Who} (h : Who.Ok m x) (k : Nat) : Dep (k + 5) (whoT x) :=
  .tup _ _ (by simp) (by simp only [List.mem_cons, List.not_mem_nil, or_false, forall_eq_or_imp, forall_eq]; exact ⟨h.1.dep k, .int _ _, ints_dep (by have := h.2.2.1; omega) (k + 2), ints_dep (by have := h.2.2.2; omega) (k + 2)⟩)
/-! ### how deep nodes are -/
mutual
theorem Nd.dep {m : Nat} : ∀ (n : Nd) (k : Nat), 2 * n.ht + 6 ≤ k → n.cnt ≤ 100000 → n.Pok → n.Kid m → Dep k n.toT
  | .text p s, k, h, hc, hp, hk => by
    obtain ⟨k, rfl⟩ : ∃ j, k = j + 5 := ⟨k - 5, by omega⟩
    exact .tup _ _ (by simp) (by simp only [List.mem_cons, List.not_mem_nil, or_false, forall_eq_or_imp, forall_eq]; exact ⟨.str _ _, hp.dep k, .str _ _⟩)
  | .input p t o c v, k, h, hc, hp, hk => by
    obtain ⟨k, rfl⟩ : ∃ j, k = j + 5 := ⟨k - 5, by omega⟩
    exact .tup _ _ (by simp) (by simp only [List.mem_cons, List.not_mem_nil, or_false, forall_eq_or_imp, forall_eq]; exact ⟨.str _ _, hp.1.dep k, .str _ _, hp.2.dep k, .int _ _, .int _ _⟩)
  | .place p c, k, h, hc, hp, hk => by
    obtain ⟨k, rfl⟩ : ∃ j, k = j + 5 := ⟨k - 5, by omega⟩
    exact .tup _ _ (by simp) (by simp only [List.mem_cons, List.not_mem_nil, or_false, forall_eq_or_imp, forall_eq]; exact ⟨.str _ _, hp.dep k, .int _ _⟩)
  | .box p t o a ns, k, h, hc, hp, hk => by
    simp only [Nd.ht] at h
    simp only [Nd.cnt] at hc
    obtain ⟨k, rfl⟩ : ∃ j, k = j + 5 := ⟨k - 5, by omega⟩
    exact .tup _ _ (by simp) (by simp only [List.mem_cons, List.not_mem_nil, or_false, forall_eq_or_imp, forall_eq]; exact ⟨.str _ _, hp.1.dep k, .str _ _, hp.2.1.dep k, by cases a <;> first | exact .non _ | exact .int _ _, Nd.deps ns (k + 4) (by omega) (by omega) hp.2.2 hk⟩)
  | .child p c ps rs ns, k, h, hc, hp, hk => by
    simp only [Nd.ht] at h
    simp only [Nd.cnt] at hc
    obtain ⟨k, rfl⟩ : ∃ j, k = j + 5 := ⟨k - 5, by omega⟩
    exact .tup _ _ (by simp) (by simp only [List.mem_cons, List.not_mem_nil, or_false, forall_eq_or_imp, forall_eq]; exact ⟨.str _ _, hp.1.dep k, .int _ _, ints_dep (by have := hk.2.1; omega) (k + 2), ints_dep (by have := hk.2.2.1; omega) (k + 2), Nd.deps ns (k + 4) (by omega) (by omega) hp.2 hk.2.2.2⟩)
theorem Nd.deps {m : Nat} : ∀ (ns : List Nd) (k : Nat), 2 * Nd.hts ns + 7 ≤ k → Nd.cnts ns ≤ 100000 → Nd.Poks ns → Nd.Kids m ns → Dep k (.tup (Nd.toTs ns))
  | ns, k, h, hc, hp, hk => by
    obtain ⟨k, rfl⟩ : ∃ j, k = j + 1 := ⟨k - 1, by omega⟩
    refine .tup _ _ (by rw [Nd.toTs_map, List.length_map]; exact Nat.le_trans (ncnts_len ns) hc) (Nd.deps' ns k (by omega) hc hp hk)
theorem Nd.deps' {m : Nat} : ∀ (ns : List Nd) (k : Nat), 2 * Nd.hts ns + 6 ≤ k → Nd.cnts ns ≤ 100000 → Nd.Poks ns → Nd.Kids m ns → ∀ t ∈ Nd.toTs ns, Dep k t
  | [], k, h, hc, hp, hk, t, ht => nomatch ht
  | n :: ns, k, h, hc, hp, hk, t, ht => by
    simp only [Nd.hts] at h
    simp only [Nd.cnts] at hc
    simp only [Nd.toTs, List.mem_cons] at ht
    rcases ht with rfl | ht
    · exact Nd.dep n k (by omega) (by omega) hp.1 hk.1
    · exact Nd.deps' ns k (by omega) (by omega) hp.2 hk.2 t ht
end
/-! ### rows -/
def Nd.what : Nd → T
  | .text _ s => .str s
  | .box _ t _ _ _ => .str t
  | .input _ t _ _ _ => .str t
  | .child _ c _ _ _ => .int (c : Int)
  | .place _ k => .int (k : Int)
def rowT (n : Nd) : T := .tup [pathT n.path, .str n.kind, n.what]
theorem row_dep {n : Nd} (h : n.Pok) (k : Nat) : Dep (k + 5) (rowT n) :=
  .tup _ _ (by simp) (by simp only [List.mem_cons, List.not_mem_nil, or_false, forall_eq_or_imp, forall_eq]; exact ⟨(Nd.pok_path h).dep k, .str _ _, by cases n <;> first | exact .str _ _ | exact .int _ _⟩)
theorem Nd.kindAt3 {H : Hp} {v : V} : ∀ (n : Nd), IsT H n.toT v → ∃ a vp vw r, v = .ref a ∧ H a = some (.tup (.str n.kind :: vp :: vw :: r)) ∧ IsT H (pathT n.path) vp ∧ IsT H n.what vw
  | .text .., h => by obtain ⟨a, _, x, y, rfl, e, p, q, r⟩ := IsT.inv3 h; rw [p.of_str] at e; exact ⟨a, _, _, _, rfl, e, q, r⟩
  | .box .., h => by
    obtain ⟨a, xs, rfl, e, p⟩ := IsT.inv h
    cases p with | cons r1 p => cases p with | cons r2 p => cases p with | cons r3 p => rw [r1.of_str] at e; exact ⟨a, _, _, _, rfl, e, r2, r3⟩
  | .input .., h => by
    obtain ⟨a, xs, rfl, e, p⟩ := IsT.inv h
    cases p with | cons r1 p => cases p with | cons r2 p => cases p with | cons r3 p => rw [r1.of_str] at e; exact ⟨a, _, _, _, rfl, e, r2, r3⟩
  | .child .., h => by
    obtain ⟨a, xs, rfl, e, p⟩ := IsT.inv h
    cases p with | cons r1 p => cases p with | cons r2 p => cases p with | cons r3 p => rw [r1.of_str] at e; exact ⟨a, _, _, _, rfl, e, r2, r3⟩
  | .place .., h => by obtain ⟨a, _, x, y, rfl, e, p, q, r⟩ := IsT.inv3 h; rw [p.of_str] at e; exact ⟨a, _, _, _, rfl, e, q, r⟩
/-! ### promises -/
def spSee (n : Nat) : Sp := fun vs H Q _ => ∃ (ns : List Nd) (v : V), vs = [v] ∧ IsT H (.tup (Nd.toTs ns)) v ∧ Nd.hts ns < n ∧ Nd.cnts ns ≤ 80000 ∧
  ∀ r H', IsT H' (.tup (Nd.sees ns)) r → Oth [] H H' → Q r H'
def spSeen (n : Nat) : Sp := fun vs H Q _ => ∃ (ns : List Nd) (v : V), vs = [v] ∧ IsT H (.tup (Nd.toTs ns)) v ∧ Nd.Shns ns ∧ Nd.hts ns < n ∧ Nd.cnts ns ≤ 80000 ∧
  ∀ r H', IsT H' (.tup (Nd.sees ns)) r → Oth [] H H' → Q r H'
def spInRow (n : Nat) : Sp := fun vs H Q _ => ∃ (ns : List Nd) (v : V), vs = [v] ∧ IsT H (.tup (Nd.toTs ns)) v ∧ Nd.Shns ns ∧ Nd.hts ns < n ∧ Nd.cnts ns ≤ 80000 ∧
  ∀ p H' rs, H p = none → H' p = some (.lst rs) → Paired (IsT H') ((Nd.fls ns).map rowT) rs → Oth [] H H' → Q (.ref p) H'
def spFlatG (n : Nat) : Sp := fun vs H Q _ => ∃ (ns : List Nd) (v : V), vs = [v] ∧ IsT H (.tup (Nd.toTs ns)) v ∧ Nd.hts ns < n ∧ Nd.cnts ns ≤ 80000 ∧
  ∀ r H', IsT H' (.tup ((Nd.fls (Nd.shs ns)).map rowT)) r → Oth [] H H' → Q r H'
def spCompsIn (n : Nat) : Sp := fun vs H Q _ => ∃ (ns : List Nd) (v : V), vs = [v] ∧ IsT H (.tup (Nd.toTs ns)) v ∧ Nd.hts ns < n ∧ Nd.cnts ns ≤ 80000 ∧
  ∀ p H' rs, H p = none → H' p = some (.lst rs) → Paired (IsT H') ((Nd.ppls ns).map whoT) rs → Oth [] H H' → Q (.ref p) H'
def spCompsOf (n : Nat) : Sp := fun vs H Q _ => ∃ (rs : List Int) (ns : List Nd) (v : V), vs = [v] ∧ IsT H (.tup [intsT rs, .tup (Nd.toTs ns)]) v ∧ Nd.hts ns < n ∧ Nd.cnts ns ≤ 80000 ∧
  ∀ r H', IsT H' (.tup ((([], 0, [], rs) :: Nd.ppls ns : List Who).map whoT)) r → Oth [] H H' → Q r H'
/-- a row of the law's people: a list -/
structure WhoL (H : Hp) (x : Who) (v : V) : Prop where
  ex : ∃ a vp vq vr, v = .ref a ∧ H a = some (.lst [vp, .int (x.2.1 : Int), vq, vr]) ∧ IsT H (pathT x.1) vp ∧ IsT H (intsT x.2.2.1) vq ∧ IsT H (intsT x.2.2.2) vr
theorem WhoL.oth {H H' : Hp} {S : List Addr} {x : Who} {v : V} (h : WhoL H x v) (o : Oth S H H') (n : ∀ a ∈ S, v ≠ .ref a) : WhoL H' x v := by
  obtain ⟨a, vp, vq, vr, rfl, e, p, q, r⟩ := h.ex
  exact ⟨a, _, _, _, rfl, o.keep a _ (fun hm => n a hm rfl) e, p.oth o, q.oth o, r.oth o⟩
abbrev WhoLs (H : Hp) : List Who → List V → Prop := Paired (WhoL H)
theorem WhoLs.oth {H H' : Hp} {S : List Addr} (o : Oth S H H') : ∀ {xs : List Who} {vs : List V}, WhoLs H xs vs → (∀ v ∈ vs, ∀ a ∈ S, v ≠ .ref a) → WhoLs H' xs vs
  | _, _, .nil, _ => .nil
  | _, _, .cons h t, hn => .cons (h.oth o (hn _ List.mem_cons_self)) (WhoLs.oth o t fun v hv => hn v (List.mem_cons_of_mem _ hv))
theorem WhoLs.len {H : Hp} : ∀ {xs : List Who} {vs : List V}, WhoLs H xs vs → vs.length = xs.length
  | _, _, .nil => rfl
  | _, _, .cons _ t => congrArg (· + 1) (WhoLs.len t)
theorem WhoLs.get {H : Hp} : ∀ {xs : List Who} {vs : List V}, WhoLs H xs vs → ∀ {i : Nat} {v : V}, vs[i]? = some v → ∃ x, xs[i]? = some x ∧ WhoL H x v
  | _, _, .nil, i, v, e => by cases i <;> cases e
  | _, _, .cons h t, 0, v, e => by cases e; exact ⟨_, rfl, h⟩
  | _, _, .cons h t, i + 1, v, e => WhoLs.get t e
theorem WhoLs.app {H : Hp} {xs ys : List Who} {vs us : List V} (p : WhoLs H xs vs) (q : WhoLs H ys us) : WhoLs H (xs ++ ys) (vs ++ us) := Paired.appendP p q
theorem WhoLs.ne_self {H H0 : Hp} {xs : List Who} {vs : List V} {r : Addr} (h : WhoLs H xs vs) (hr : H r = some (.lst vs)) (f : Fresh H0 vs) : ∀ v ∈ vs, v ≠ .ref r := fun v hv z => by
  subst z
  obtain ⟨i, hi, e⟩ := List.getElem_of_mem hv
  obtain ⟨x, _, w⟩ := h.get (List.getElem?_eq_getElem hi |>.trans (by rw [e]))
  obtain ⟨a, vp, vq, vr, ea, e2, _⟩ := w.ex
  cases ea
  rw [hr] at e2
  injection e2 with e2
  injection e2 with e2
  obtain ⟨a, ha, _⟩ := f (.int (x.2.1 : Int)) (by rw [e2]; simp)
  cases ha
theorem Fresh.back {H H1 : Hp} {vs : List V} (f : Fresh H1 vs) (o : Oth [] H H1) : Fresh H vs := fun v hv => by
  obtain ⟨a, rfl, e⟩ := f v hv
  refine ⟨a, rfl, ?_⟩
  cases h : H a with
  | none => rfl
  | some x => rw [o.keep a x (by simp) h] at e; cases e
theorem Fresh.app {H : Hp} {a b : List V} (x : Fresh H a) (y : Fresh H b) : Fresh H (a ++ b) := fun v hv => (List.mem_append.mp hv).elim (x v) (y v)
def spPeople (n : Nat) : Sp := fun vs H Q _ => ∃ (ns : List Nd) (v : V), vs = [v] ∧ IsT H (.tup (Nd.toTs ns)) v ∧ Nd.hts ns < n ∧ Nd.cnts ns ≤ 80000 ∧
  ∀ p H' rs, H p = none → H' p = some (.lst rs) → Fresh H rs → WhoLs H' (Nd.ppls ns) rs → Oth [] H H' → Q (.ref p) H'
end Pw
namespace Pw
open PySem PySem.Spec PyProof.Rows L2
theorem ppls_flat {α : Type} (f : α → Nd) : ∀ l : List α, Nd.ppls (l.map f) = l.flatMap fun x => (f x).ppl
  | [] => rfl
  | x :: l => by simp only [List.map_cons, Nd.ppls, List.flatMap_cons, ppls_flat f l]
/-- paths of who is there go on from p by a name of the row, and are unlike -/
theorem fill_paths {X : Pc} (h : X.Ok) : ∀ (n own : Nat) (free : Bool) (o : Path) (c : Sc) (ts : List Tp) (p : Path), own ≤ X.g.comps.length - 1 → Tp.Oks own (X.g.comps.length - 1) free ts → (Tp.ptss ts).Nodup →
    (∀ x ∈ Nd.ppls (fill X n o c ts p), ∃ nm r, x.1 = p ++ nm :: r ∧ nm ∈ (lawNamed [] (Tp.dis c [] [] 0 ts)).map (·.1)) ∧ ((Nd.ppls (fill X n o c ts p)).map (·.1)).Nodup
  | 0, _, _, _, _, _, _, _, _, _ => ⟨fun x hx => (by simp [fill, Nd.ppls] at hx), by simp [fill, Nd.ppls]⟩
  | n + 1, own, free, o, c, ts, p, ho, hk, ndp => by
    -- what stands in one node
    have kid : ∀ (q : Path) (d : Nat) (props : List Int), d ≤ X.g.comps.length - 1 → (∀ x ∈ (childOf X (fill X n) (lkAll n) q d props).ppl, ∃ r, x.1 = q ++ r) ∧ ((childOf X (fill X n) (lkAll n) q d props).ppl.map (·.1)).Nodup := fun q d props h2 => by
      have cd := h.comp h2
      obtain ⟨a, b⟩ := fill_paths h n d true q (X.sc q d props) (X.comp d).cs q h2 cd.oks cd.ndp
      unfold childOf
      simp only [Nd.ppl]
      refine ⟨fun x hx => ?_, ?_⟩
      · rcases List.mem_cons.mp hx with rfl | hx
        · exact ⟨[], by simp⟩
        · obtain ⟨nm, r, e, _⟩ := a x hx
          exact ⟨nm :: r, e⟩
      · rw [List.map_cons, List.nodup_cons]
        refine ⟨fun hm => ?_, b⟩
        obtain ⟨x, hx, e⟩ := List.mem_map.mp hm
        obtain ⟨nm, r, e2, _⟩ := a x hx
        rw [e] at e2
        have := congrArg List.length e2
        simp at this
    have one : ∀ it ∈ lawNamed [] (Tp.dis c [] [] 0 ts), (∀ x ∈ (nodeOf X (fill X n) (lkAll n) o { c with index := it.2.2 } (p ++ [it.1]) it.2.1).ppl, ∃ r, x.1 = p ++ it.1 :: r) ∧ ((nodeOf X (fill X n) (lkAll n) o { c with index := it.2.2 } (p ++ [it.1]) it.2.1).ppl.map (·.1)).Nodup := fun it hit => by
      obtain ⟨dd, hdd, h1, h2⟩ := lawNamed_tp _ _ it hit
      obtain ⟨a1, ⟨fr, a2⟩, a3, a4⟩ := Tp.dis_ok ts c [] [] 0 hk dd hdd
      have a6 := (Tp.dis_pts ts c [] [] 0 dd hdd).nodup ndp
      rw [← h1] at a1 a2 a3 a6
      have lift : ∀ {r : Path} {x : Who}, x.1 = (p ++ [it.1]) ++ r → ∃ r, x.1 = p ++ it.1 :: r := fun {r x} e => ⟨r, by rw [e]; simp⟩
      generalize it.2.1 = t at a1 a2 a3 a6
      cases t with
      | when _ _ _ => cases a1
      | each _ _ => cases a1
      | text s => exact ⟨fun x hx => (by simp [nodeOf, Nd.ppl] at hx), by simp [nodeOf, Nd.ppl]⟩
      | «show» s => exact ⟨fun x hx => (by simp [nodeOf, Nd.ppl] at hx), by simp [nodeOf, Nd.ppl]⟩
      | input _ _ => exact ⟨fun x hx => (by simp [nodeOf, Nd.ppl] at hx), by simp [nodeOf, Nd.ppl]⟩
      | box tag key act cs =>
        obtain ⟨a, b⟩ := fill_paths h n own fr o { c with index := it.2.2 } cs (p ++ [it.1]) ho a2.2.2.2 a6
        simp only [nodeOf, Nd.ppl]
        refine ⟨fun x hx => ?_, b⟩
        obtain ⟨nm, r, e, _⟩ := a x hx
        exact lift e
      | child d key props =>
        obtain ⟨a, b⟩ := kid (p ++ [it.1]) d (props.map (E.val { c with index := it.2.2 })) a2.2.1
        exact ⟨fun x hx => let ⟨r, e⟩ := a x hx; lift e, b⟩
      | part k =>
        simp only [nodeOf]
        split
        · rename_i hin
          have hk := h.pres k hin
          have hp := h.g.parts _ (List.getElem_mem hk)
          have e3 : X.g.parts.getD k 0 = X.g.parts[k] := by rw [List.getD_eq_getElem?_getD, List.getElem?_eq_getElem hk]; rfl
          obtain ⟨a, b⟩ := kid (p ++ [it.1]) (X.g.parts.getD k 0) [] (by rw [e3]; omega)
          exact ⟨fun x hx => let ⟨r, e⟩ := a x hx; lift e, b⟩
        · exact ⟨fun x hx => (by simp [Nd.ppl] at hx), by simp [Nd.ppl]⟩
    have nd := (names_eq c hk ndp).2
    simp only [fill, ppls_flat]
    refine ⟨fun x hx => ?_, ?_⟩
    · obtain ⟨it, hit, hx⟩ := List.mem_flatMap.mp hx
      obtain ⟨r, e⟩ := (one it hit).1 x hx
      exact ⟨it.1, r, e, List.mem_map.mpr ⟨it, hit, rfl⟩⟩
    · rw [List.map_flatMap]
      refine List.pairwise_flatMap.mpr ⟨fun it hit => (one it hit).2, ?_⟩
      have nd2 : (lawNamed [] (Tp.dis c [] [] 0 ts)).Pairwise fun a b => a.1 ≠ b.1 := List.pairwise_map.mp nd
      refine List.Pairwise.imp_of_mem (fun {a b} ha hb hab => ?_) nd2
      intro u hu v hv e
      obtain ⟨x, hx, rfl⟩ := List.mem_map.mp hu
      obtain ⟨y, hy, rfl⟩ := List.mem_map.mp hv
      obtain ⟨r, ex⟩ := (one a ha).1 x hx
      obtain ⟨r', ey⟩ := (one b hb).1 y hy
      rw [ex, ey] at e
      have := List.append_cancel_left e
      exact hab (List.cons.inj this).1
/-! ### what is told of a path, once -/
def firstOf : List (Path × List Int) → Path → Option (List Int)
  | [], _ => none
  | it :: r, p => if it.1 = p then some it.2 else firstOf r p
theorem firstOf_none {p : Path} : ∀ {cs : List (Path × List Int)}, p ∉ cs.map (·.1) → firstOf cs p = none ∧ lastOf cs p = none
  | [], _ => ⟨rfl, rfl⟩
  | it :: r, h => by
    rw [List.map_cons, List.mem_cons, not_or] at h
    obtain ⟨a, b⟩ := firstOf_none h.2
    have e : ¬ it.1 = p := fun z => h.1 z.symm
    exact ⟨by simp only [firstOf, if_neg e, a], by simp only [lastOf, if_neg e, b, Option.or]⟩
theorem firstOf_last {p : Path} : ∀ {cs : List (Path × List Int)}, (cs.map (·.1)).Nodup → firstOf cs p = lastOf cs p
  | [], _ => rfl
  | it :: r, h => by
    rw [List.map_cons, List.nodup_cons] at h
    simp only [firstOf, lastOf]
    by_cases e : it.1 = p
    · rw [if_pos e, if_pos e, (firstOf_none (e ▸ h.1)).2]; rfl
    · rw [if_neg e, if_neg e, firstOf_last h.2, Option.or_none]
theorem lastOf_mem {it : Path × List Int} : ∀ {cs : List (Path × List Int)}, (cs.map (·.1)).Nodup → it ∈ cs → lastOf cs it.1 = some it.2
  | jt :: r, h, hm => by
    rw [List.map_cons, List.nodup_cons] at h
    rcases List.mem_cons.mp hm with rfl | hm
    · simp only [lastOf, if_true, (firstOf_none h.1).2, Option.or]
    · simp only [lastOf, lastOf_mem h.2 hm, Option.or]
/-! ### a page hangs on the cells of who is there alone -/
theorem fill_same {X Y : Pc} (eg : Y.g = X.g) (es : Y.st = X.st) (ep : Y.pres = X.pres) : ∀ (n : Nat) (o : Path) (c : Sc) (ts : List Tp) (p : Path), (∀ x ∈ Nd.ppls (fill X n o c ts p), Y.cells x.1 x.2.1 = X.cells x.1 x.2.1) → fill Y n o c ts p = fill X n o c ts p
  | 0, _, _, _, _, _ => rfl
  | n + 1, o, c, ts, p, h => by
    have ecomp : ∀ d, Y.comp d = X.comp d := fun d => by unfold Pc.comp; rw [eg]
    have kid : ∀ (q : Path) (d : Nat) (props : List Int), (∀ x ∈ (childOf X (fill X n) (lkAll n) q d props).ppl, Y.cells x.1 x.2.1 = X.cells x.1 x.2.1) → childOf Y (fill Y n) (lkAll n) q d props = childOf X (fill X n) (lkAll n) q d props := fun q d props hq => by
      unfold childOf at hq ⊢
      simp only [Nd.ppl] at hq
      have e1 : Y.sc q d props = X.sc q d props := by
        unfold Pc.sc
        rw [hq _ List.mem_cons_self, es]
      have e2 : ∀ lk, Y.reads lk = X.reads lk := fun lk => by unfold Pc.reads; rw [es]
      rw [e1, ecomp, e2, fill_same eg es ep n q (X.sc q d props) (X.comp d).cs q fun x hx => hq x (List.mem_cons_of_mem _ hx)]
    simp only [fill, ppls_flat] at h ⊢
    refine List.map_congr_left fun it hit => ?_
    have h' : ∀ x ∈ (nodeOf X (fill X n) (lkAll n) o { c with index := it.2.2 } (p ++ [it.1]) it.2.1).ppl, Y.cells x.1 x.2.1 = X.cells x.1 x.2.1 := fun x hx => h x (List.mem_flatMap.mpr ⟨it, hit, hx⟩)
    generalize it.2.1 = t at h'
    cases t with
    | box tag key act cs => simp only [nodeOf, Nd.ppl] at h' ⊢; rw [fill_same eg es ep n _ _ _ _ h']
    | child d key props => exact kid _ _ _ h'
    | part k =>
      simp only [nodeOf] at h' ⊢
      rw [ep, eg]
      by_cases hin : k ∈ X.pres
      · rw [if_pos hin] at h' ⊢; rw [if_pos hin]; exact kid _ _ _ h'
      · rw [if_neg hin]; rw [if_neg hin]
    | _ => rfl
end Pw
namespace Pw
open PySem PySem.Spec PyProof.Rows L2
section
variable {P : Program} {w : World} {A : Around} {E : Value → Shared → Prop} {s : Shared}
theorem collect_tup {l : Addr} {vs : List Value} {Q : List Value → Shared → Prop} (tup : s.heap.IsTuple l vs.toArray) (fits : vs.length ≤ sizeLine)
    (h : Q vs { s with heap := (s.heap.push (seqObj "list" #[] 0)).update s.heap.objs.size (Obj.mapSeq (· ++ vs.toArray)) }) :
    wpAny (model P w) A (collect (.ref l)) Q E s := by
  obtain ⟨o, get, cls, m, dat⟩ := tup
  unfold collect
  refine wpAny_bind (wpAny_runValue (codeAny_builtin entry_proto_collect' (show wpAny _ _ (do again (.builtin "list.__iadd__" ⟨[← newList [], .ref l], []⟩)) _ _ s from
    wpAny_bind (wpAny_newList (wpAny_pure ⟨Code.quiet_builtin _ (by decide +kernel), codeAny_builtin entry_list_iadd' ?_⟩)))))
  refine (show wpAny _ _ (Builtin.List.listExtendWith (.ref s.heap.objs.size) (.ref l) (.ref s.heap.objs.size)) _ _ { s with heap := s.heap.push (seqObj "list" #[] 0) } from ?_)
  unfold Builtin.List.listExtendWith
  have get2 : (s.heap.push (seqObj "list" #[] 0)).get? l = some o := Heap.get?_push_of_some _ get
  refine wpAny_bind (wpAny_typeOf (T := "tuple") ⟨o, get2, cls⟩ ?_)
  have isT : (Value.type "tuple" == Value.type "tuple") = true := by rfl
  rw [if_pos (by rw [isT]; simp)]
  refine wpAny_bind (listItems_at get2 dat (wpAny_bind (listItems_at (xs := #[]) (n := 0) (Heap.get?_push_size _ rfl) rfl ?_)))
  rw [if_neg (by simp)]
  refine wpAny_bind (listUpdate_at (xs := #[]) (n := 0) (Heap.get?_push_size _ rfl) rfl (wpAny_pure ?_) (Nat.zero_le _) (by show (#[] ++ vs.toArray).size ≤ sizeLine + 1; simp only [Array.size_append, List.size_toArray, List.length_nil]; omega))
  refine (show wpAny (model P w) A (do
      let o ← load s.heap.objs.size
      match o.data with
      | .seq xs _ => pure xs.toList
      | _ => unsupported "internal:collect") Q E { s with heap := (s.heap.push (seqObj "list" #[] 0)).update s.heap.objs.size (Obj.mapSeq (· ++ vs.toArray)) } from ?_)
  refine wpAny_bind (wpAny_load (get?_update_seq (Heap.get?_push_size _ rfl) _) ?_)
  refine (show wpAny _ _ (pure ((#[] : Array Value) ++ vs.toArray).toList) Q E _ from ?_)
  rw [show ((#[] : Array Value) ++ vs.toArray).toList = vs by simp]
  exact wpAny_pure h
theorem sorted_tup {l : Addr} {vs : List Value} {ns : List Int} {Q : Value → Shared → Prop} (tup : s.heap.IsTuple l vs.toArray) (areI : IntsAre vs ns) (few : vs.length < 64)
    (h : ∀ (out : Array Value) (ns' : List Int), IntsAre out.toList ns' → ns'.Perm ns → ns'.Pairwise (· ≤ ·) → Q (.ref (s.heap.objs.size + 1)) { s with heap := sortedAll s.heap vs out }) :
    wpAny (model P w) A (call (.builtin "sorted") [.ref l]) Q E s := by
  refine Calls.call_function_entry kind_sorted plain_sorted entry_sorted (args_sorted1 _) ?_
  unfold Builtin.«sorted»
  refine wpAny_bind (m := checkCount "sorted" 1 1 _) (wpAny_pure (wpAny_bind (collect_tup tup (small64 few) (wpAny_bind (wpAny_newList ?_)))))
  obtain ⟨g, eg⟩ : ∃ g : Heap, g = (s.heap.push (seqObj "list" #[] 0)).update s.heap.objs.size (Obj.mapSeq (· ++ vs.toArray)) := ⟨_, rfl⟩
  have gs : g.objs.size = s.heap.objs.size + 1 := by rw [eg, Heap.size_update, size_push']
  have here : (g.push (seqObj "list" vs.toArray 0)).get? (s.heap.objs.size + 1) = some (seqObj "list" vs.toArray 0) := by rw [← gs]; exact Heap.get?_push_size _ rfl
  rw [← eg]
  refine (show wpAny _ _ _ _ _ { s with heap := g.push (seqObj "list" vs.toArray 0) } from ?_)
  rw [gs]
  refine wpAny_bind (wpAny_holding (wpAny_call_entry slot_list_sort ⟨_, here, rfl⟩ entry_list_sort (list_sort_tree here areI few fun out ns' a1 a2 a3 => ⟨_, rfl, ?_⟩) (args_list_sort _)))
  refine wpAny_pure ⟨_, rfl, ?_⟩
  have z := h out ns' a1 a2 a3
  unfold sortedAll at z
  rw [← eg] at z
  exact z
end
section
variable {X : Cx}
def rSortedTu : List V → Hp → VK → Prop := fun vs H Q => ∃ (a : Addr) (ns : List Int), vs = [V.ref a] ∧ H a = some (.tup (ns.map V.int)) ∧ ns.length < 64 ∧
  ∀ (ns' : List Int) (p : Addr), ns'.Perm ns → ns'.Pairwise (· ≤ ·) → H p = none → Q (.ref p) (upd H p (.lst (ns'.map V.int)))
theorem cr_sortedTu : CallR X (.builtin "sorted") rSortedTu := by
  intro pins s σ H vs us Q I r h
  obtain ⟨a, ns, rfl, hs, few, q⟩ := h
  rw [Vals.ref1 r]
  obtain ⟨its, rv, tt, _⟩ := I.tuple (SqT.of hs)
  have hi := rv.ints
  refine sorted_tup tt hi (by rw [hi.length]; exact few) fun out ns' h1 h2 h3 => ?_
  obtain ⟨ep, he'⟩ := sortedAll_at s.heap its out
  exact ⟨.ref _, upd H (s.heap.objs.size + 1) (.lst (ns'.map V.int)), I.laid (t' := s.toks) (fun _ _ => sortedAll_old) (Nat.le_succ _) ⟨by rw [List.length_map, h2.length_eq]; exact small64 few, out.toList, ep, vals_of_ints h1, he'⟩, rfl, q ns' _ h2 h3 (I.hok.fresh (Nat.le_succ _))⟩
/-- set(t) of a tuple of ints -/
def rSetTu (w : World) : List V → Hp → VK → Prop := fun vs H Q => ∃ (l : Addr) (ns : List Int), vs = [V.ref l] ∧ H l = some (.tup (ns.map V.int)) ∧ ns.length < 4000 ∧ ∀ p c, H p = none → c ≤ ns.length → Q (.ref p) (upd H p (SetO w p (fun j => decide (j ∈ ns)) c))
theorem cr_setTu (hc : X.calm = true) : CallR X (.type "set") (rSetTu X.w) := by
  intro pins s σ H vs us Q I r h
  obtain ⟨l, ns, rfl, hl, small, q⟩ := h
  rw [Vals.ref1 r]
  obtain ⟨its, rv, tt, _⟩ := I.tuple (SqT.of hl)
  refine call_set_tupI (A := X.A) ns (I.ok.hd hc) tt (by simpa using rv.ints) (Nat.lt_trans (Nat.add_lt_add_right small 1) (by decide)) fun h' tk c R hcn keep => ?_
  exact ⟨.ref _, _, I.laid (t' := tk) keep (Nat.le_refl _) (setO_new R), rfl, q _ c (I.hok.fresh (Nat.le_refl _)) hcn⟩
end
end Pw
namespace Pw
open PySem PySem.Spec PyProof.Rows L2
def worldT (X : Pc) : T := .tup [.str "world", intsT X.st, cellsT X.cs, natsT X.pres]
def Pc.whos (X : Pc) : List Who := Nd.ppls [child X 12 [] 0 []]
def Pc.settled (X : Pc) : List (Path × List Int) := X.whos.map fun x => (x.1, X.cells x.1 x.2.1)
def Pc.settle (X : Pc) : Pc := { X with cs := X.settled }
theorem page_few {X : Pc} (h : X.Good) : Nd.cnts (fill X 12 [] (X.sc [] 0 []) (X.comp 0).cs []) ≤ 65640 := by
  have c := h.comp (Nat.zero_le _)
  have h1 := fill_cnt h.toOk 12 0 true [] (X.sc [] 0 []) (X.comp 0).cs [] (Nat.zero_le _) c.oks
  have h2 := Tp.insts_le _ c.echs
  have h3 := c.cnts
  have h4 : Tp.insts (X.comp 0).cs ≤ 40 := by omega
  have h5 := Nat.mul_le_mul_right (below (X.g.comps.length - 1) 0) h4
  have h6 := below_tot (X.g.comps.length - 1) 0
  have h7 : tot (X.g.comps.length - 1 - 0) ≤ tot 2 := tot_mono (by have := h.g.many; omega)
  have h8 : tot 2 = 65640 := by decide
  omega
theorem child_facts {X : Pc} (h : X.Good) : (child X 12 [] 0 []).ht ≤ 13 ∧ (child X 12 [] 0 []).cnt ≤ 65641 ∧ (child X 12 [] 0 []).Pok ∧ (child X 12 [] 0 []).Kid (X.g.comps.length - 1) := by
  obtain ⟨f1, _, f3⟩ := page_facts h
  have f2 := page_few h
  unfold child childOf
  exact ⟨by simp only [Nd.ht]; omega, by simp only [Nd.cnt]; omega, ⟨PathOk.nil, f3⟩, ⟨Nat.zero_le _, by simp, Nat.le_trans (reads_len X _) h.sl, fill_kid h.toOk 12 0 true _ _ _ _ (Nat.zero_le _) (h.comp (Nat.zero_le _)).oks⟩⟩
theorem whos_eq (X : Pc) : X.whos = ([], 0, [], X.reads (lkAll 12 (X.sc [] 0 []) (X.comp 0).cs)) :: Nd.ppls (fill X 12 [] (X.sc [] 0 []) (X.comp 0).cs []) := by
  unfold Pc.whos child childOf
  simp only [Nd.ppls, Nd.ppl, List.append_nil]
section
variable {X : Pc} (h : X.Good)
include h
theorem whos_ok : ∀ x ∈ X.whos, Who.Ok (X.g.comps.length - 1) x := by
  obtain ⟨_, _, c3, c4⟩ := child_facts h
  exact Nd.ppls_ok _ ⟨c3, trivial⟩ ⟨c4, trivial⟩
theorem whos_len : X.whos.length ≤ 65641 := by
  have h1 := Nd.ppls_len [child X 12 [] 0 []]
  have h2 := (child_facts h).2.1
  simp only [Nd.cnts] at h1
  unfold Pc.whos
  omega
theorem whos_nodup : (X.whos.map (·.1)).Nodup := by
  have cd := h.comp (Nat.zero_le _)
  obtain ⟨a, b⟩ := fill_paths h.toOk 12 0 true [] (X.sc [] 0 []) (X.comp 0).cs [] (Nat.zero_le _) cd.oks cd.ndp
  rw [whos_eq, List.map_cons, List.nodup_cons]
  refine ⟨fun hm => ?_, b⟩
  obtain ⟨x, hx, e⟩ := List.mem_map.mp hm
  obtain ⟨nm, r, e2, _⟩ := a x hx
  rw [e] at e2
  cases e2
theorem settled_map : X.settled.map (·.1) = X.whos.map (·.1) := by unfold Pc.settled; rw [List.map_map]; rfl
theorem settled_nodup : (X.settled.map (·.1)).Nodup := by rw [settled_map h]; exact whos_nodup h
theorem wcells_sm {p : Path} {d : Nat} (hd : d ≤ X.g.comps.length - 1) : Sm (X.cells p d) ∧ (X.cells p d).length ≤ 4 := by
  have z := h.sc hd p (props := []) (by intro x hx; cases hx)
  exact ⟨z.cells, z.few⟩
theorem settle_good : X.settle.Good := by
  have wok := whos_ok h
  refine { g := h.g, st := h.st, sl := h.sl, pres := h.pres, pl := h.pl, cs := fun it hit => ?_, cl := ?_, paths := fun it hit => ?_ }
  · obtain ⟨x, hx, rfl⟩ := List.mem_map.mp hit
    exact wcells_sm h (wok x hx).2.1
  · show X.settled.length ≤ 70000
    unfold Pc.settled
    rw [List.length_map]
    have := whos_len h
    omega
  · obtain ⟨x, hx, rfl⟩ := List.mem_map.mp hit
    exact (wok x hx).1
theorem settle_cells {x : Who} (hx : x ∈ X.whos) : X.settle.cells x.1 x.2.1 = X.cells x.1 x.2.1 := by
  have e := lastOf_mem (it := (x.1, X.cells x.1 x.2.1)) (settled_nodup h) (List.mem_map.mpr ⟨x, hx, rfl⟩)
  show X.settled.foldl _ _ = _
  rw [lastOf_fold, e]
  rfl
theorem settle_sc : X.settle.sc [] 0 [] = X.sc [] 0 [] := by
  have e := settle_cells h (x := ([], 0, [], X.reads (lkAll 12 (X.sc [] 0 []) (X.comp 0).cs))) (by rw [whos_eq]; exact List.mem_cons_self)
  unfold Pc.sc
  rw [show X.settle.cells [] 0 = X.cells [] 0 from e]
  rfl
theorem settle_fill : fill X.settle 12 [] (X.sc [] 0 []) (X.comp 0).cs [] = fill X 12 [] (X.sc [] 0 []) (X.comp 0).cs [] :=
  fill_same (X := X) (Y := X.settle) rfl rfl rfl 12 [] (X.sc [] 0 []) (X.comp 0).cs [] fun x hx => settle_cells h (whos_eq X ▸ List.mem_cons_of_mem _ hx)
theorem settle_comp : compT X.settle 12 [] 0 [] = compT X 12 [] 0 [] := by
  unfold compT
  have e : ∀ lk, X.settle.reads lk = X.reads lk := fun _ => rfl
  rw [settle_sc h, show X.settle.comp 0 = X.comp 0 from rfl, settle_fill h, e]
theorem settle_child : child X.settle 12 [] 0 [] = child X 12 [] 0 [] := by
  unfold child childOf
  have e : ∀ lk, X.settle.reads lk = X.reads lk := fun _ => rfl
  rw [settle_sc h, show X.settle.comp 0 = X.comp 0 from rfl, settle_fill h, e]
theorem settle_whos : X.settle.whos = X.whos := by unfold Pc.whos; rw [settle_child h]
theorem settle_settled : X.settle.settled = X.settled := by
  unfold Pc.settled
  rw [settle_whos h]
  exact List.map_congr_left fun x hx => by rw [settle_cells h hx]
theorem settle_twice : X.settle.settle = X.settle := by
  unfold Pc.settle
  rw [show Pc.settled { g := X.g, st := X.st, cs := X.settled, pres := X.pres } = X.settled from settle_settled h]
end
/-! ### no row is as long as ten -/
mutual
theorem Tp.dis1_top : ∀ (t : Tp) (c : Sc) (addr reps : List Int), ∀ d ∈ t.dis1 c addr reps, ∀ u i, (d.wish = .at u i ∨ d.other = .at u i) → ∃ w, u = addr ++ w
  | .when e cs os, c, addr, reps, d, h, u, i, hu => by
    simp only [Tp.dis1] at h
    split at h
    · obtain ⟨j, w, e, _⟩ := Tp.dis_top os c _ reps 0 d h u i hu
      exact ⟨_, by rw [e, List.append_assoc]⟩
    · obtain ⟨j, w, e, _⟩ := Tp.dis_top cs c _ reps 0 d h u i hu
      exact ⟨_, by rw [e, List.append_assoc]⟩
  | .each e cs, c, addr, reps, d, h, u, i, hu => by
    simp only [Tp.dis1, List.mem_flatMap] at h
    obtain ⟨n, _, h⟩ := h
    obtain ⟨j, w, e, _⟩ := Tp.dis_top cs _ addr _ 0 d h u i hu
    exact ⟨_, e⟩
  | .text _, c, addr, reps, d, h, u, i, hu | .show _, c, addr, reps, d, h, u, i, hu | .input _ _, c, addr, reps, d, h, u, i, hu => by
    simp only [Tp.dis1, List.mem_singleton] at h
    subst h
    rcases hu with e | e <;> (injection e with e _; exact ⟨[], by rw [← e]; simp⟩)
  | .part _, c, addr, reps, d, h, u, i, hu => by
    simp only [Tp.dis1, List.mem_singleton] at h
    subst h
    rcases hu with e | e
    · cases e
    · injection e with e _; exact ⟨[], by rw [← e]; simp⟩
  | .box _ key _ _, c, addr, reps, d, h, u, i, hu => by
    simp only [Tp.dis1, List.mem_singleton] at h
    subst h
    rcases hu with e | e
    · cases key with
      | none => injection e with e _; exact ⟨[], by rw [← e]; simp⟩
      | some k => cases e
    · injection e with e _; exact ⟨[], by rw [← e]; simp⟩
  | .child _ key _, c, addr, reps, d, h, u, i, hu => by
    simp only [Tp.dis1, List.mem_singleton] at h
    subst h
    rcases hu with e | e
    · cases key with
      | none => injection e with e _; exact ⟨[], by rw [← e]; simp⟩
      | some k => cases e
    · injection e with e _; exact ⟨[], by rw [← e]; simp⟩
theorem Tp.dis_top : ∀ (ts : List Tp) (c : Sc) (before reps : List Int) (k : Nat), ∀ d ∈ Tp.dis c before reps k ts, ∀ u i, (d.wish = .at u i ∨ d.other = .at u i) → ∃ (j : Nat) (w : List Int), u = before ++ ((j : Int) :: w) ∧ j < k + ts.length
  | [], c, before, reps, k, d, h, u, i, hu => nomatch h
  | t :: ts, c, before, reps, k, d, h, u, i, hu => by
    simp only [Tp.dis, List.mem_append] at h
    rcases h with h | h
    · obtain ⟨w, e⟩ := Tp.dis1_top t c _ reps d h u i hu
      exact ⟨k, w, by rw [e, List.append_assoc]; rfl, by simp only [List.length_cons]; omega⟩
    · obtain ⟨j, w, e, hj⟩ := Tp.dis_top ts c before reps (k + 1) d h u i hu
      exact ⟨j, w, e, by simp only [List.length_cons]; omega⟩
end
theorem lawNamed_from : ∀ (ds : List Dr) (tk : List Nm), ∀ it ∈ lawNamed tk ds, ∃ d ∈ ds, it.1 = d.wish ∨ it.1 = d.other
  | [], tk, it, h => nomatch h
  | d :: ds, tk, it, h => by
    simp only [lawNamed, List.mem_cons] at h
    rcases h with rfl | h
    · refine ⟨d, by simp, ?_⟩
      unfold lawName
      cases hw : d.wish with
      | key t v =>
        dsimp only
        split
        · exact .inr rfl
        · exact .inl rfl
      | «at» t i => exact .inl rfl
      | part k => exact .inl rfl
    · obtain ⟨d', h1, h2⟩ := lawNamed_from ds _ it h
      exact ⟨d', by simp [h1], h2⟩
theorem cnt_len : ∀ ts : List Tp, ts.length ≤ Tp.cnts ts
  | [] => Nat.le_refl _
  | t :: ts => by
    have := cnt_len ts
    have h1 : 1 ≤ t.cnt := by cases t <;> simp [Tp.cnt]
    simp only [List.length_cons, Tp.cnts]
    omega
theorem no_ninth {X : Pc} (h : X.Good) : firstOf X.settled [Nm.at [9] []] = none := by
  refine (firstOf_none ?_).1
  rw [settled_map h, whos_eq, List.map_cons, List.mem_cons, not_or]
  refine ⟨by simp, fun hm => ?_⟩
  have cd := h.comp (Nat.zero_le _)
  obtain ⟨a, _⟩ := fill_paths h.toOk 12 0 true [] (X.sc [] 0 []) (X.comp 0).cs [] (Nat.zero_le _) cd.oks cd.ndp
  obtain ⟨x, hx, e⟩ := List.mem_map.mp hm
  obtain ⟨nm, r, e2, hnm⟩ := a x hx
  rw [e, List.nil_append] at e2
  injection e2 with e3 _
  rw [← e3] at hnm
  obtain ⟨it, hit, e4⟩ := List.mem_map.mp hnm
  obtain ⟨d, hd, hw⟩ := lawNamed_from _ _ it hit
  rw [e4] at hw
  obtain ⟨j, w, e5, hj⟩ := Tp.dis_top _ _ _ _ _ d hd [9] [] (hw.imp Eq.symm Eq.symm)
  have := cnt_len (X.comp 0).cs
  have := cd.cnts
  rw [List.nil_append] at e5
  injection e5 with e6 _
  have e7 : (9 : Int) = (j : Int) := e6
  omega
def optT (o : Option (List Int)) : T := match o with | none => .non | some xs => intsT xs
/-! ### promises -/
def spSettle : Sp := fun vs H Q _ => ∃ (X : Pc) (ps : List Nat) (vp vs' vc vr : V), vs = [vp, vs', vc, vr] ∧ IsT H X.g.toT vp ∧ IsT H (intsT X.st) vs' ∧ IsT H (cellsT X.cs) vc ∧ IsT H (natsT ps) vr ∧ X.Good ∧ X.pres.Pairwise (· < ·) ∧ (∀ k, k ∈ X.pres ↔ k ∈ ps) ∧ ps.length ≤ 60 ∧
  ∀ v H', IsT H' (worldT X.settle) v → Oth [] H H' → Q v H'
def spFirstW : Sp := fun vs H Q _ => ∃ (X : Pc) (vp vr : V), vs = [vp, vr] ∧ IsT H X.g.toT vp ∧ IsT H (natsT X.pres) vr ∧ X.st = intsOf X.g.store ∧ X.cs = [] ∧ X.Good ∧ X.pres.Pairwise (· < ·) ∧
  ∀ v H', IsT H' (worldT X.settle) v → Oth [] H H' → Q v H'
def spPageOf : Sp := fun vs H Q _ => ∃ (X : Pc) (vp vw : V), vs = [vp, vw] ∧ IsT H X.g.toT vp ∧ IsT H (worldT X) vw ∧ X.Good ∧
  ∀ v H', IsT H' (compT X 12 [] 0 []) v → Oth [] H H' → Q v H'
def spCellsAt : Sp := fun vs H Q _ => ∃ (X : Pc) (p : Path) (vw vp : V), vs = [vw, vp] ∧ IsT H (worldT X) vw ∧ IsT H (pathT p) vp ∧ X.Good ∧ PathOk p ∧
  ∀ v, IsT H (optT (firstOf X.cs p)) v → Q v H
def spLawCells : Sp := fun vs H Q _ => ∃ (X : Pc) (p : Path) (d : Nat) (ab : Addr) (vp : V), vs = [.ref ab, vp, .int (d : Int)] ∧ About H ab X ∧ X.Good ∧ (X.cs.map (·.1)).Nodup ∧ IsT H (pathT p) vp ∧ PathOk p ∧ d ≤ X.g.comps.length - 1 ∧
  ∀ v, IsT H (intsT (X.cells p d)) v → Q v H
def spLawSettle : Sp := fun vs H Q _ => ∃ (X : Pc) (ab : Addr), vs = [.ref ab] ∧ About H ab X ∧ X.Good ∧ (X.cs.map (·.1)).Nodup ∧ X.pres.Pairwise (· < ·) ∧
  ∀ r H', H r = none → About H' r X.settle → Oth [] H H' → Q (.ref r) H'
def spLawFirst : Sp := fun vs H Q _ => ∃ (X : Pc) (vp vr : V), vs = [vp, vr] ∧ IsT H X.g.toT vp ∧ IsT H (natsT X.pres) vr ∧ X.st = intsOf X.g.store ∧ X.cs = [] ∧ X.Good ∧ X.pres.Pairwise (· < ·) ∧
  ∀ r H', H r = none → About H' r X.settle → Oth [] H H' → Q (.ref r) H'
def spLawWorld : Sp := fun vs H Q _ => ∃ (X : Pc) (ab : Addr), vs = [.ref ab] ∧ About H ab X ∧
  ∀ v H', IsT H' (worldT X) v → Oth [] H H' → Q v H'
theorem world_dep {X : Pc} (h : X.Good) : Dep 8 (worldT X) := by
  have pl := h.pl
  have sl := h.sl
  have d1 : Dep 7 (cellsT X.cs) := .tup _ _ (by rw [List.length_map]; have := h.cl; omega) (fun t ht => by
    obtain ⟨it, hit, rfl⟩ := List.mem_map.mp ht
    exact .tup _ _ (by simp) (by simp only [List.mem_cons, List.not_mem_nil, or_false, forall_eq_or_imp, forall_eq]; exact ⟨(h.paths it hit).dep 1, ints_dep (by have := (h.cs it hit).2; omega) 3⟩))
  have d2 : Dep 7 (natsT X.pres) := .tup _ _ (by simp; omega) (fun t ht => by
    obtain ⟨i, _, rfl⟩ := List.mem_map.mp ht
    exact .int _ _)
  exact .tup _ _ (by simp) (by simp only [List.mem_cons, List.not_mem_nil, or_false, forall_eq_or_imp, forall_eq]; exact ⟨.str _ _, ints_dep (by omega) 5, d1, d2⟩)
theorem nat_asc {a : List Nat} (h : a.Pairwise (· < ·)) : (a.map Int.ofNat).Pairwise (· < ·) := by
  rw [List.pairwise_map]
  exact h.imp fun z => Int.ofNat_lt.mpr z
theorem perm_asc {ns : List Int} {a : List Int} (p : ns.Perm a) (le : ns.Pairwise (· ≤ ·)) (asc : a.Pairwise (· < ·)) : ns = a := by
  have nd : ns.Nodup := p.nodup_iff.mpr (asc.imp fun h => by omega)
  refine asc_eq ?_ asc fun x => p.mem_iff
  exact (le.and nd).imp fun h => by omega
theorem pe_getN2 {X : Cx} {P : Program} {w : World} {o e f : Expr} {apos cpos : Pos} {td ty tx : TE} (hP : X.prog = P) (hw : X.w = w) (hu : X.A.units + 20 < cLine) (ho : PE X o td) (he : PE X e ty) (hf : PE X f tx) (m : M2 X o "get" apos e f cpos) : PE X (.Call (.Attribute o "get" apos) [e, f] [] cpos) (tGetN P w td ty tx) := by
  subst hP hw
  exact pe_getN hu ho he hf m
theorem firstOf_mem {p : Path} : ∀ {cs : List (Path × List Int)}, p ∈ cs.map (·.1) → (firstOf cs p).isSome = true
  | it :: r, h => by
    simp only [firstOf]
    by_cases e : it.1 = p
    · rw [if_pos e]; rfl
    · rw [if_neg e]
      rw [List.map_cons, List.mem_cons] at h
      exact firstOf_mem (h.resolve_left fun z => e z.symm)
end Pw
namespace Pw
open PySem PySem.Spec PyProof.Rows L2
section
variable {X : Cx}
def tDcNI (P : Program) (w : World) (wi : TI) (g : TG) (tt : TT) (tk tv : TE) (vs : List Nat) : TE := fun σ H Q => wi σ H fun J H1 => ∀ D H2, H1 D = none → Oth [] H1 H2 → DN P w H2 D [] → ∃ W : Nat → Nat → Hp → Prop, (∃ m, W 0 m H2) ∧ ∀ i m H3, W i m H3 →
  (J.stop i H3 ∧ Q (.ref D) H3) ∨ (J.go i H3 ∧ ∃ Nx : Hp → Prop, (∀ H4, Nx H4 → ∃ m', m' < m ∧ W (i + 1) m' H4) ∧ ∀ x H4, J.yld i H3 x H4 → g x (wipe σ vs) H4 fun σ5 H5 => wipe σ5 vs = wipe σ vs ∧ tt σ5 H5 fun b H6 => if b = true then tk σ5 H6 fun y H7 => tv σ5 H7 fun z H8 => rSetN P w (.ref D) y z H8 Nx else Nx H6)
theorem dcNI_core {pins : List (Addr × Obj)} {s : Shared} {σ : L2.St} {H : Hp} {Q : VK} {kx vx tg iter : Expr} {ifs : List Expr} {scope : Scope} {own : List (Str × Nat)} {pos pos' : Pos} {wi : TI} {g : TG} {tt : TT} {tk tv : TE} {use : Option (Value → Sem Unit)} {Qf : Value → Shared → Prop}
    (hu : X.A.units + 20 < cLine) (calm : X.calm = true) (nd : X.N.Nodup) (I : Inv X pins σ H s) (pi : PI X tg iter wi) (ok : BlkOk X.N X.env.scope scope own)
    (hg : ∀ s H C cl fp, PG (X.blk s H scope (compEnvC scope cl C X.env) fp) tg g) (hq : ∀ s H C cl fp, PTs (X.blk s H scope (compEnvC scope cl C X.env) fp) ifs tt) (hk : ∀ s H C cl fp, PE (X.blk s H scope (compEnvC scope cl C X.env) fp) kx tk)
    (hv : ∀ s H C cl fp, PE (X.blk s H scope (compEnvC scope cl C X.env) fp) vx tv) (fold : ∀ x, foldedSetIterable iter X.env x = pure x)
    (h : tDcNI X.prog X.w wi g tt tk tv (own.map (·.2)) σ H Q)
    (post : ∀ D C s' m H', Inv X pins σ H' s' → Q (.ref D) H' → s'.heap.Ns C m → FpOk X pins H' C → compPost (model X.prog X.w) X.A X.xe use Qf (.ref D) C (.ok .next) s') :
    wpAny (model X.prog X.w) X.A (comprehension (.DictComp kx vx [⟨tg, iter, ifs, 0⟩] scope pos) scope X.env pos' newDict false (eval iter X.env) use) Qf X.xe s := by
  have fr : ∀ y ∈ scope.names, y.2 = .free → ∃ c, X.env.cells.lookup y.1 = some c := fun y hy e => (ok.free y hy e).elim (fun k => I.ok.has _ (.inl k)) fun k => I.ok.has _ (.inr k)
  refine wpAny_comprehension_free rfl fold (closure_ok fr) ok.kind (fun y hy e => (ok.uniq y hy).trans (congrArg some e)) (thn (pi.run pins s σ H _ I h) fun xv sA hA => thn hA fun itv sB hB => ?_)
  obtain ⟨it, fp, tn, J, HB, rfl, IB, T, stB, fB, q⟩ := hB
  refine wpAny_newObj_type (newEnv_comp ?_)
  obtain ⟨D, eD⟩ : ∃ D, D = sB.heap.objs.size := ⟨_, rfl⟩
  rw [← eD]
  have noD : HB D = none := IB.hok.fresh (Nat.le_of_eq eD.symm)
  obtain ⟨sC, eC⟩ : ∃ sC : Shared, sC = { sB with heap := sB.heap.push { cls := .type "dict", data := .dict #[] } } := ⟨_, rfl⟩
  obtain ⟨HC, eH⟩ : ∃ HC : Hp, HC = upd HB D (.ext (NDφ X.prog X.w D [])) := ⟨_, rfl⟩
  have big : (D == sysModules) = false := beq_eq_false_iff_ne.mpr (by rw [eD]; exact Ne.symm (Nat.ne_of_lt IB.big))
  have IC : Inv X pins σ HC sC := by
    rw [eC, eH]
    exact IB.laid (t' := sB.toks) (fun _ _ e => Heap.get?_push_of_some _ e) (Nat.le_of_eq eD.symm) (by rw [eD]; exact ND_ok (Heap.DictOfH.new sB.heap))
  have dn0 : DN X.prog X.w HC D [] := by rw [eH]; exact ⟨[], upd_same, Nat.zero_le _, big, .nil⟩
  have oC : Oth [] HB HC := by rw [eH]; exact Oth.new noD
  obtain ⟨W, ⟨m0, w0⟩, turn⟩ := q D HC noD oC dn0
  have keptC : ∀ b o, sB.heap.get? b = some o → sC.heap.get? b = some o := fun b o e => by rw [eC]; exact Heap.get?_push_of_some _ e
  have fC : ∀ b ∈ fp, FpOk X pins HC b ∧ b < sC.heap.objs.size := fun b hb => by
    obtain ⟨o, e, _⟩ := T.obj _ _ stB b hb
    have lt := Heap.lt_size e
    exact ⟨⟨by rw [eH, upd_ne (by rw [eD]; exact Nat.ne_of_lt lt)]; exact (fB b hb).1, (fB b hb).2⟩, Heap.lt_size (keptC b o e)⟩
  have ID := block_start IC ok nd fC
  have gG := hg sC HC sC.heap.objs.size (cellsFrom (sC.heap.objs.size + 1) scope.names (cloFrom X.env.cells scope.names [])) fp
  have gQ := hq sC HC sC.heap.objs.size (cellsFrom (sC.heap.objs.size + 1) scope.names (cloFrom X.env.cells scope.names [])) fp
  have gK := hk sC HC sC.heap.objs.size (cellsFrom (sC.heap.objs.size + 1) scope.names (cloFrom X.env.cells scope.names [])) fp
  have gV := hv sC HC sC.heap.objs.size (cellsFrom (sC.heap.objs.size + 1) scope.names (cloFrom X.env.cells scope.names [])) fp
  have none0 : ∀ b ∈ fp, HC b = none := fun b hb => (fC b hb).1.1
  rw [← eC]
  show codeAny _ _ (.compStart (.DictComp kx vx [⟨tg, iter, ifs, 0⟩] scope pos) 0 (.ref it) (.ref D) (compEnvC scope (cellsFrom (sC.heap.objs.size + 1) scope.names (cloFrom X.env.cells scope.names [])) sC.heap.objs.size X.env)) (compPost (model X.prog X.w) X.A X.xe use Qf (.ref D) sC.heap.objs.size) { sC with heap := pushCells (sC.heap.push { cls := .type "dict", data := .dict #[] }) scope.names }
  obtain ⟨ce, ece⟩ : ∃ ce, ce = compEnvC scope (cellsFrom (sC.heap.objs.size + 1) scope.names (cloFrom X.env.cells scope.names [])) sC.heap.objs.size X.env := ⟨_, rfl⟩
  rw [← ece] at ID gG gQ gK gV ⊢
  have loc : ce.locals = sC.heap.objs.size := by rw [ece]; rfl
  obtain ⟨sD, eSD⟩ : ∃ sD : Shared, sD = { sC with heap := pushCells (sC.heap.push { cls := .type "dict", data := .dict #[] }) scope.names } := ⟨_, rfl⟩
  rw [← eSD] at ID ⊢
  have stD : tn 0 sD.heap := T.keep _ _ _ stB fun b _ o e => by rw [eSD]; exact pushCells_keeps _ _ _ _ (Heap.get?_push_of_some _ (keptC b o e))
  have foot : ∀ {τ : L2.St} {G : Hp} {u : Shared}, Inv (X.blk sC HC scope ce fp) [] τ G u → (∀ b ∈ fp, G b = none) → ∀ b ∈ fp, FpOk (X.blk sC HC scope ce fp) [] G b := fun J nn b hb =>
    ⟨nn b hb, (J.ok.exf b hb).1, J.ok.exfs b hb, .inl hb, fun x c e => (J.ok.exf b hb).2 x c e, fun p hp => by cases (show p ∈ ([] : List (Addr × Obj)) from hp)⟩
  have go : codeAny (model X.prog X.w) X.A (.compLoop (.DictComp kx vx [⟨tg, iter, ifs, 0⟩] scope pos) 0 (.ref it) (.ref D) ce) (compPost (model X.prog X.w) X.A X.xe use Qf (.ref D) sC.heap.objs.size) sD := by
    refine compLoop_anyD (fun n u => ∃ i G, Inv (X.blk sC HC scope ce fp) [] (wipe σ (own.map (·.2))) G u ∧ tn i u.heap ∧ (∀ b ∈ fp, G b = none) ∧ W i n G) (fun n u hI => ?_) m0 ⟨0, HC, ID, stD, none0, w0⟩
    obtain ⟨i, G, IG, stG, nG, wG⟩ := hI
    rcases turn i n G wG with ⟨stop, qq⟩ | ⟨go, Nx, hNx, step⟩
    · refine thnF (T.done (X.blk sC HC scope ce fp) rfl rfl rfl calm i [] u _ G (fun _ _ => False) IG (foot IG nG) stG stop) fun r u2 ⟨hr, I2⟩ => ?_
      subst hr
      have back : Inv X pins σ G u2 := IC.call' (ch := fp) I2.os I2.base I2.hok I2.bare fun b hb => let z := (fC b hb).1.2; ⟨z.2.2.1, z.1, z.2.2.2.1, z.2.2.2.2⟩
      have nl : G ce.locals = none := I2.free
      obtain ⟨m, hn, _⟩ := I2.loc
      have hn : u2.heap.Ns ce.locals m := hn
      rw [loc] at nl hn
      exact post D sC.heap.objs.size u2 m G back qq hn (IC.fpOk (Nat.le_refl _) nl)
    · refine thnF (T.item (X.blk sC HC scope ce fp) rfl rfl rfl calm i [] u _ G (fun _ _ => False) IG (foot IG nG) stG go) fun r u2 ⟨v, hr, h2⟩ => ?_
      subst hr
      refine thnF h2 fun _ u3 ⟨x, G3, I3, r3, y3, st3, n3⟩ => ?_
      refine thnF (gG.run _ u3 _ G3 x v _ (I3.pinned (foot I3 n3) (T.obj _ _ st3)) r3 (step x G3 y3)) fun _ u4 ⟨σ4, G4, I4, w4, q4⟩ => ?_
      refine thnF (gQ.run _ u4 σ4 G4 _ I4 q4) fun bq uq ⟨Gq, Iq, qq⟩ => ?_
      -- how a turn ends
      have fin : ∀ {s' : Shared} {H' : Hp}, Inv (X.blk sC HC scope ce fp) ([] ++ pinsAt fp u3.heap) σ4 H' s' → Nx H' → ∃ m, m < n ∧ ∃ i H', Inv (X.blk sC HC scope ce fp) [] (wipe σ (own.map (·.2))) H' s' ∧ tn i s'.heap ∧ (∀ b ∈ fp, H' b = none) ∧ W i m H' := fun {u7 G7} I7 nx => by
        obtain ⟨m', lt, w7⟩ := hNx G7 nx
        have pinned : ∀ b ∈ fp, ∀ o, u3.heap.get? b = some o → u7.heap.get? b = some o ∧ G7 b = none := fun b hb o e =>
          let z := I7.pin (b, o) (List.mem_append_right _ (List.mem_append_right _ (mem_pinsAt hb e)))
          ⟨z.1, z.2.1⟩
        refine ⟨m', lt, i + 1, G7, (I7.unpinned (pins := [])).weak (by rw [← w4, wipe_length]) (fun j v' e => by rw [← w4] at e; exact (wipe_some e).1), T.keep _ _ _ st3 fun b hb o e => (pinned b hb o e).1, fun b hb => ?_, w7⟩
        obtain ⟨o, e, _⟩ := T.obj _ _ st3 b hb
        exact (pinned b hb o e).2
      cases bq with
      | false =>
        simp only [Bool.false_eq_true, if_false] at qq ⊢
        exact fin Iq qq
      | true =>
        simp only [if_true] at qq ⊢
        refine thnF (gK.run _ uq σ4 Gq _ Iq qq) fun ky u5 ⟨y5, G5, I5, r5, q5⟩ => ?_
        refine thnF (gV.run _ u5 σ4 G5 _ I5 q5) fun vy u6 ⟨y6, G6, I6, r6, q6⟩ => ?_
        exact dictSetN (X := X.blk sC HC scope ce fp) hu I6 r5 r6 q6 fun u7 G7 I7 nx => fin I7 nx
  exact codeAny_compStart_dict go (T.self X.A 0 _ _ _ stD go)
theorem pe_dcNI {kx vx tg iter : Expr} {ifs : List Expr} {scope : Scope} {own : List (Str × Nat)} {pos : Pos} {wi : TI} {g : TG} {tt : TT} {tk tv : TE} (hu : X.A.units + 20 < cLine) (calm : X.calm = true) (nd : X.N.Nodup) (pi : PI X tg iter wi) (ok : BlkOk X.N X.env.scope scope own)
    (hg : ∀ s H C cl fp, PG (X.blk s H scope (compEnvC scope cl C X.env) fp) tg g) (hq : ∀ s H C cl fp, PTs (X.blk s H scope (compEnvC scope cl C X.env) fp) ifs tt) (hk : ∀ s H C cl fp, PE (X.blk s H scope (compEnvC scope cl C X.env) fp) kx tk)
    (hv : ∀ s H C cl fp, PE (X.blk s H scope (compEnvC scope cl C X.env) fp) vx tv) (fold : ∀ x, foldedSetIterable iter X.env x = pure x := by intro _; rfl) :
    PE X (.DictComp kx vx [⟨tg, iter, ifs, 0⟩] scope pos) (tDcNI X.prog X.w wi g tt tk tv (own.map (·.2))) := ⟨fun pins s σ H Q I h => by
  rw [arm_eval_DictComp]
  exact dcNI_core hu calm nd I pi ok hg hq hk hv fold h fun D C s' m H' I' q ns fo => ⟨m, ns, fun h'' sb => ⟨.ref D, H', I'.turned (t' := s'.toks) (fun b o hb e => (sb.2 b hb).trans e) fo.1 fo.2.1 fo.2.2.2.1 fo.2.2.2.2.1 fo.2.2.2.2.2, rfl, q⟩⟩⟩
theorem dcNI_tup {P : Program} {w : World} {K : PySem.W.Frag} {a : Addr} {xs : List V} {g : TG} {tt : TT} {tk tv : TE} {vs : List Nat} {σ : L2.St} {H2 : Hp} {D : Addr} {Qd : Hp → Prop} (Pv : Nat → Hp → Prop) (h0 : Pv 0 H2) (stay : ∀ i H, i ≤ xs.length → Pv i H → SqT K H a xs)
    (one : ∀ i x H, xs[i]? = some x → Pv i H → g x (wipe σ vs) H fun σ5 H5 => wipe σ5 vs = wipe σ vs ∧ tt σ5 H5 fun b H6 => if b = true then tk σ5 H6 fun y H7 => tv σ5 H7 fun z H8 => rSetN P w (.ref D) y z H8 (Pv (i + 1)) else Pv (i + 1) H6) (end' : ∀ H, Pv xs.length H → Qd H) :
    ∃ W : Nat → Nat → Hp → Prop, (∃ m, W 0 m H2) ∧ ∀ i m H3, W i m H3 → ((Itt K a).stop i H3 ∧ Qd H3) ∨ ((Itt K a).go i H3 ∧ ∃ Nx : Hp → Prop, (∀ H4, Nx H4 → ∃ m', m' < m ∧ W (i + 1) m' H4) ∧ ∀ x H4, (Itt K a).yld i H3 x H4 → g x (wipe σ vs) H4 fun σ5 H5 => wipe σ5 vs = wipe σ vs ∧ tt σ5 H5 fun b H6 => if b = true then tk σ5 H6 fun y H7 => tv σ5 H7 fun z H8 => rSetN P w (.ref D) y z H8 Nx else Nx H6) := by
  refine ⟨fun i m H => m + i = xs.length ∧ Pv i H, ⟨xs.length, rfl, h0⟩, fun i m H3 hW => ?_⟩
  obtain ⟨em, p⟩ := hW
  have sq := stay i H3 (by omega) p
  rcases Nat.lt_or_ge i xs.length with lt | ge
  · refine .inr ⟨⟨xs, xs[i], sq, List.getElem?_eq_getElem lt⟩, Pv (i + 1), fun H4 p' => ⟨m - 1, by omega, by omega, p'⟩, fun x H4 y => ?_⟩
    obtain ⟨e, y⟩ := y
    cases e
    exact one i x H3 (y xs sq) p
  · obtain rfl : i = xs.length := by omega
    exact .inl ⟨⟨xs, sq, Nat.le_refl _⟩, end' H3 p⟩
/-- x in d, in a block -/
theorem op_inN2 {P : Program} {w : World} (hP : X.prog = P) (hw : X.w = w) (hu : X.A.units + 20 < cLine) : OpR X (compareOp .In) (rInN P w) := by subst hP hw; exact op_inN hu
def rNotInN (P : Program) (w : World) : R2 := fun x y H Q => ∃ b a k kvs, x = .ref b ∧ y = .ref a ∧ NKey H k b ∧ DN P w H a kvs ∧ Q (.bl (!(valV kvs k).isSome)) H
theorem op_notInN (hu : X.A.units + 20 < cLine) : OpR X (compareOp .NotIn) (rNotInN X.prog X.w) := by
  intro pins s σ H x y v u Q I r1 r2 h
  obtain ⟨b, a, k, kvs, rfl, rfl, hk, hd, q⟩ := h
  cases (show v = Value.ref b from r1)
  cases (show u = Value.ref a from r2)
  obtain ⟨xs, z, hs, rel, dd⟩ := hd.open I.hok
  refine PySem.notIn_keyed (knd := nestedKind X.prog X.w) (by show X.A.units + 1 + 8 < cLine; omega) (hk.ok I.hok) hs ⟨xs, dd, rfl⟩ ?_
  have e := (rel.val k).isSome_eq
  rw [valueAt_pairsH, ← e]
  exact ⟨.bl _, H, I.tok _, rfl, q⟩
/-- d[x] -/
def tDGetN (P : Program) (w : World) (td ty : TE) : TE := fun σ H Q => td σ H fun x H1 => ty σ H1 fun y H2 => rIxN P w x y H2 Q
theorem pe_dN {P : Program} {w : World} {o i : Expr} {pos : Pos} {td ty : TE} (hP : X.prog = P) (hw : X.w = w) (hu : X.A.units + 20 < cLine) (ho : PE X o td) (hi : PE X i ty) (hs : NoSl i) : PE X (.Subscript o i pos) (tDGetN P w td ty) := by
  subst hP hw
  refine ⟨fun pins s σ H Q I h => ?_⟩
  refine subD_of PySem.F.slot_dict_getitem.lookup hs (thn (ho.run pins s σ H _ I h) fun u s1 ⟨x, H1, I1, rx, q1⟩ => thn (hi.run pins s1 σ H1 _ I1 q1) fun iv s2 ⟨y, H2, I2, ry, b, a, k, kvs, z, ey, ex, hk, hd, hv, q2⟩ => ?_)
  subst ex ey
  obtain rfl : u = Value.ref a := rx
  obtain rfl : iv = Value.ref b := ry
  obtain ⟨xs, _, _, _, dd⟩ := hd.open I2.hok
  exact ⟨Heap.DictKeyed.typeIs (s := s2) (knd := nestedKind X.prog X.w) (kvs := pairsH xs) ⟨xs, dd, rfl⟩, n_getItem hu I2 hk hd hv fun w' s3 I3 rw' => ⟨z, H2, I3, rw', q2⟩⟩
end
end Pw
namespace Pw
open PySem PySem.Spec PyProof.Rows L2
theorem Room.u20 {k : Nat} {A : Around} (hr : Room k A) : A.units + 20 < cLine := by have := Room.units65 hr; omega
theorem lkp_hd {f : Str} {v : V} {r : List (Str × V)} : List.lookup f ((f, v) :: r) = some v := by
  simp only [List.lookup, beq_self_eq_true]
theorem lkp_tl {f g : Str} {v : V} {r : List (Str × V)} (h : ¬ g = f) : List.lookup g ((f, v) :: r) = List.lookup g r := by
  have hb : (g == f) = false := beq_eq_false_iff_ne.mpr h
  simp only [List.lookup, hb]
theorem lkp_nil {g : Str} : List.lookup g ([] : List (Str × V)) = none := rfl
theorem putF_nil {f : Str} {v : V} : putF f v [] = [(f, v)] := rfl
theorem putF_hd {f : Str} {v x : V} {r : List (Str × V)} : putF f v ((f, x) :: r) = (f, v) :: r := by
  show (if f = f then (f, v) :: r else (f, x) :: putF f v r) = _
  rw [if_pos rfl]
theorem putF_tl {f g : Str} {v x : V} {r : List (Str × V)} (h : ¬ g = f) : putF f v ((g, x) :: r) = (g, x) :: putF f v r := by
  show (if g = f then (g, v) :: r else (g, x) :: putF f v r) = _
  rw [if_neg h]
/-- an object is written over -/
theorem Oth.ins {S : List Addr} {H : Hp} {b C dx : Addr} {fs : List (Str × V)} {o : HO} (hb : b ∈ S) (h : H b = some (.ins C dx fs)) : Oth S H (upd H b o) :=
  ⟨fun a o' n q => by rw [upd_ne (fun e => n (by rw [e]; exact hb))]; exact q, fun a xs q => by rw [upd_ne (ne_of q h (by intro z; cases z))]; exact q⟩
/-- data written out -/
def tLit (t : T) : TE := fun _ H Q => ∀ v H', IsT H' t v → Oth [] H H' → Q v H'
def tLits (ts : List T) : TA := fun _ H Q => ∀ vs H', Paired (IsT H') ts vs → Oth [] H H' → Q vs H'
section
variable {X : Cx} {pos : Pos} {es : List Expr} {e : Expr} {ts : List T} {t : T}
theorem PE.of {X : Cx} {e : Expr} {t u : TE} (h : PE X e t) (i : ∀ σ H Q, u σ H Q → t σ H Q) : PE X e u := ⟨fun pins s σ H Q I z => h.run pins s σ H Q I (i σ H Q z)⟩
theorem PA.of {X : Cx} {e : List Expr} {t u : TA} (h : PA X e t) (i : ∀ σ H Q, u σ H Q → t σ H Q) : PA X e u := ⟨fun p pins s σ H Q I z => h.run p pins s σ H Q I (i σ H Q z)⟩
theorem pl_nil : PA X [] (tLits []) := PA.of pa_nil fun σ H Q h => h [] H .nil Oth.refl
theorem pl_cons (h : PE X e (tLit t)) (hs : PA X es (tLits ts)) (st : starEach (e :: es) X.env = (false, eval e X.env) :: starEach es X.env := by rfl) : PA X (e :: es) (tLits (t :: ts)) :=
  PA.of (pa_cons h hs st) fun σ H Q q v H1 tv o1 vs H2 tvs o2 => q (v :: vs) H2 (.cons (tv.oth o2) tvs) (o1.trans o2)
theorem pl_tup {x1} (h : PA X es (tLits ts)) (z : ts.length ≤ 1000) : PE X (.Tuple es x1 pos) (tLit (.tup ts)) :=
  PE.of (pe_tup h) fun σ H Q q vs H1 tvs o1 => ⟨Nat.le_trans (by rw [(paired_get tvs).1]; exact z : vs.length ≤ 1000) (by decide), fun p hp => q _ _ (.mk upd_same (paired_oth tvs (Oth.new (S := []) hp))) (o1.trans (Oth.new hp))⟩
theorem pl_int {i : Int} {j} : PE X (.Constant (.int i) j pos) (tLit (.int i)) := PE.of pe_int fun σ H Q q => q _ _ (.int i) Oth.refl
theorem pl_str {x : Str} {j} : PE X (.Constant (.str x) j pos) (tLit (.str x)) := PE.of pe_str fun σ H Q q => q _ _ (.str x) Oth.refl
theorem pe_fldK {K : PySem.W.Frag} {f : Str} {ta : TE} (hK : X.K = K) (he : PE X e ta) (hb : attributeBase e f X.env (eval e X.env) = eval e X.env) : PE X (.Attribute e f pos) (tFld K ta f) := by subst hK; exact pe_fld he hb
end
end Pw
namespace Pw
open PySem PySem.Spec PyProof.Rows L2
open AutoSeq1 (wpAny_loadPart')
theorem meets_tuple_items (r d : Addr) (o : Obj) (hc : o.cls = .type "dict_items") (es : Array DictEntry) (ep : Nat) :
    Meets (Builtin.«tuple.__new__» ⟨[.type "tuple", .ref r], []⟩)
      (fun A R s => A.handled = none ∧ s.heap.get? r = some o ∧ s.heap.IsItemsView r d ∧ s.heap.DictRaw d es ep ∧ es.size ≤ sizeLine ∧
        ∀ (h' : Heap) (tk : Nat) (as : List Addr), (∀ b o, s.heap.get? b = some o → h'.get? b = some o) → as.length = es.size → PySem.W.DilG es s.heap.objs.size h' as → R (.ok (.ret (.ref h'.objs.size))) { s with heap := h'.push { cls := .type "tuple", data := .seq (as.map Value.ref).toArray }, toks := tk }) :=
  .of_wp fun prog w A R s h => by
    obtain ⟨hh, ho, hv, hm, hn, h⟩ := h
    obtain ⟨hp, g, dd, tk, os⟩ := s
    have hsub := sub_tuple_self
    have hinit := init_tuple_lookup
    have hmh := madeHere_tuple
    have hT : Shared.TypeIs ⟨hp, g, dd, tk, os⟩ (.ref r) "dict_items" := ⟨o, ho, hc⟩
    have hh1 : A.in1.handled = none := hh
    wp_walk using wpAny_loadPart' ho, wpAny_typeOf hT, PySem.W.dil_collect hh1 hv hm hn
    intro h' tk as hk hl hG
    show wpAny _ _ (Builtin.Tuple.tupleExact (as.map Value.ref).toArray >>= fun v => ret v) _ _ _
    unfold Builtin.Tuple.tupleExact
    refine wpAny_bind (wpAny_newObj_type ?_ (by show (as.map Value.ref).toArray.size ≤ sizeLine; rw [List.size_toArray, List.length_map, hl]; exact hn))
    exact wpAny_pure ⟨_, rfl, h h' tk as hk hl hG⟩
theorem Paired.getB {α β : Type} {R : α → β → Prop} : ∀ {xs : List α} {ys : List β}, Paired R xs ys → ∀ {i : Nat} {y : β}, ys[i]? = some y → ∃ x, xs[i]? = some x ∧ R x y
  | _, _, .nil, i, y, h => by simp at h
  | _, _, .cons r q, 0, y, h => by cases h; exact ⟨_, rfl, r⟩
  | _, _, .cons r q, i + 1, y, h => Paired.getB q (i := i) h
theorem paired_idx {α β : Type} {R : α → β → Prop} : ∀ {xs : List α} {ys : List β}, ys.length = xs.length → (∀ (i : Nat) (x : α) (y : β), xs[i]? = some x → ys[i]? = some y → R x y) → Paired R xs ys
  | [], [], _, _ => .nil
  | [], _ :: _, l, _ => by cases l
  | _ :: _, [], l, _ => by cases l
  | x :: xs, y :: ys, l, h => .cons (h 0 x y rfl rfl) (paired_idx (Nat.succ.inj l) fun i a b e1 e2 => h (i + 1) a b e1 e2)
section
variable {X : Cx} {e : Expr} {te : TE} {p apos cpos pos : Pos}
/-- tuple(e.items()) -/
def tTupItems (P : Program) (w : World) (te : TE) : TE := fun σ H Q => te σ H fun x H1 => ∃ (d : Addr) (kvs : List (NestedKey × V)), x = .ref d ∧ DN P w H1 d kvs ∧
  ∀ (H' : Hp) (r : Addr) (ts : List V), Oth [] H1 H' → H1 r = none → H' r = some (.tup ts) → Paired (fun (q : NestedKey × V) (t : V) => ∃ a b, t = .ref a ∧ H' a = some (.tup [.ref b, q.2]) ∧ NKey H1 q.1 b) kvs ts → Q (.ref r) H'
theorem pe_tupItems (hcm : X.calm = true) (he : PE X e te) (hg : Gl X "tuple") (hm : X.mg "tuple" = none) (hbase : attributeBase e "items" X.env (eval e X.env) = eval e X.env := by rfl) (hline : (apos.endLine == cpos.line) = true := by rfl)
    (hs : starEach [.Call (.Attribute e "items" apos) [] [] cpos] X.env = (false, eval (.Call (.Attribute e "items" apos) [] [] cpos) X.env) :: starEach [] X.env := by rfl) :
    PE X (.Call (.Name "tuple" p) [.Call (.Attribute e "items" apos) [] [] cpos] [] pos) (tTupItems X.prog X.w te) := by
  refine ⟨fun pins s σ H Q I hq => ?_⟩
  refine wpAny_Call_Name_kw (ld_blt I hg hm boot_tuple ?_)
  refine PyProof.Rows.callWith_type1 ?_ hs rfl
  rw [hs]
  show wpAny _ _ (spliced ((false, eval (.Call (.Attribute e "items" apos) [] [] cpos) X.env) :: backTo pos (starEach [] X.env))) _ _ s
  refine Calls.spliced_cons ?_
  refine wpAny_Call_method (T := "dict") (id := "dict.items") hbase rfl hline PySem.F.plainAttrs_dict PySem.F.slot_dict_items PySem.F.type_dict_items (thn (he.run pins s σ H _ I hq) fun u s1 ⟨x, H1, I1, rx, d, kvs, ex, hd, q⟩ => ?_)
  subst ex
  obtain rfl : u = Value.ref d := rx
  obtain ⟨xs, hz, hs0, rel, dd⟩ := hd.open I1.hok
  obtain ⟨ob, es, ep, ho, hx, hdat, hes, his, hnd⟩ := dd
  have I2 : Inv X pins σ H1 { s1 with heap := s1.heap.push { cls := .type "dict_items", data := .fields #[.ref d] } } := I1.kept (t' := s1.toks) fun b ob q => Heap.get?_push_of_some _ q
  have dd' : s1.heap.DictOfH (nestedKind X.prog X.w) d xs := ⟨ob, es, ep, ho, hx, hdat, hes, his, hnd⟩
  refine ⟨Heap.DictKeyed.typeIs (s := s1) (knd := nestedKind X.prog X.w) (kvs := pairsH xs) ⟨xs, dd', rfl⟩, fun b eb => ?_, ?_⟩
  · cases eb; exact ⟨ob, ho, hx.2.1⟩
  show wpAny _ _ (callWith cpos (.builtin "dict.items") [.ref d] [] []) _ X.xe s1
  refine method_meetsIn PySem.F.slot_dict_items PySem.F.entry_dict_items rfl (PySem.evalArgs_none ⟨rfl, Heap.DictKeyed.typeIs (s := s1) (knd := nestedKind X.prog X.w) (kvs := pairsH xs) ⟨xs, dd', rfl⟩, PySem.F.args_dict_items_1 _, _, meets_dict_items_raw d hs0, ⟨es, ep, ob, ho, hx, hdat⟩, ?_⟩)
  refine Calls.spliced_nil ?_
  have hview : (s1.heap.push { cls := .type "dict_items", data := .fields #[.ref d] }).get? s1.heap.objs.size = some { cls := .type "dict_items", data := .fields #[.ref d] } := Heap.get?_push_size _ rfl
  have lk : kvs.length = xs.length := Paired.length rel
  have l2 : es.size = xs.length := size_of_entries hes
  refine callType_new PySem.F.called_tuple (by decide) (PySem.F.typeCall_tuple_1 _) (PySem.F.newCall_tuple_1 _) (fun obj => PySem.F.args_object_init_2 obj _) PySem.F.entry_tuple_new
    (meets_tuple_items s1.heap.objs.size d _ rfl es ep) ⟨I1.ok.hd hcm, hview, ⟨_, hview, rfl, rfl⟩, ⟨ob, Heap.get?_push_of_some _ ho, hx, hdat⟩, by omega, fun h' tk as hk hl hG => ⟨⟨_, Heap.get?_push_size _ rfl, rfl⟩, ?_⟩⟩
  have hlt : s1.heap.objs.size < h'.objs.size := Heap.lt_size (hk _ _ hview)
  have asn : as.Nodup := List.Pairwise.imp (fun h => Nat.ne_of_lt h) hG.rise
  have lo2 : (s1.heap.push { cls := .type "dict_items", data := .fields #[.ref d] }).objs.size = s1.heap.objs.size + 1 := Heap.size_push _ _
  obtain ⟨s2, es2⟩ : ∃ s2 : Shared, s2 = { s1 with heap := s1.heap.push { cls := .type "dict_items", data := .fields #[.ref d] } } := ⟨_, rfl⟩
  have I2 : Inv X pins σ H1 s2 := by rw [es2]; exact I2
  have z2 : s2.heap.objs.size = s1.heap.objs.size + 1 := by rw [es2]; exact lo2
  have kp2 : ∀ b o, s2.heap.get? b = some o → (h'.push { cls := .type "tuple", data := .seq (as.map Value.ref).toArray }).get? b = some o := fun b o q => by rw [es2] at q; exact Heap.get?_push_of_some _ (hk b o q)
  have I3 : Inv X pins σ H1 { s2 with heap := h'.push { cls := .type "tuple", data := .seq (as.map Value.ref).toArray }, toks := tk } := I2.kept kp2
  have hT0 : H1 h'.objs.size = none := I2.hok.fresh (by omega)
  have lav : as.length = kvs.length := by omega
  have I4 : Inv X pins σ (upd H1 h'.objs.size (.tup (as.map V.ref))) { s2 with heap := h'.push { cls := .type "tuple", data := .seq (as.map Value.ref).toArray }, toks := tk } :=
    I3.take (h' := h'.push { cls := .type "tuple", data := .seq (as.map Value.ref).toArray }) (t' := tk) (fun b ob _ e => e) (I2.fpOk (by omega) hT0) ⟨by rw [List.length_map]; omega, as.map Value.ref, LiI.vals_refs as, ⟨_, Heap.get?_push_size _ rfl, rfl, _, rfl⟩⟩
  have ent : ∀ (j : Nat) (a : Addr), as[j]? = some a → ∃ (q : NestedKey × V) (x : NestedKey × Addr × Value), kvs[j]? = some q ∧ (q.1 = x.1 ∧ NKey H1 q.1 x.2.1 ∧ RelV q.2 x.2.2) ∧ h'.get? a = some { cls := .type "tuple", data := .seq #[.ref x.2.1, x.2.2] } := fun j a ha => by
    obtain ⟨hj, eg⟩ := hG.pairs j a ha
    have hx' : j < xs.length := by omega
    have ee : es[j] = entryOfKey (nestedKind X.prog X.w) xs[j] := by
      have z1 : es.toList[j]? = some es[j] := by rw [Array.getElem?_toList]; exact Array.getElem?_eq_getElem hj
      rw [hes, List.getElem?_map, List.getElem?_eq_getElem hx'] at z1
      exact (Option.some.inj z1).symm
    obtain ⟨q, gq, r⟩ := Pw.Paired.getB rel (List.getElem?_eq_getElem hx')
    refine ⟨q, xs[j], gq, r, ?_⟩
    rw [eg, ee]
    rfl
  obtain ⟨H2, I5, g5, q5⟩ := L2.DX.takeT (P := fun a vs => ∃ (j : Nat) (q : NestedKey × V) (b : Addr), as[j]? = some a ∧ kvs[j]? = some q ∧ vs = [.ref b, q.2] ∧ NKey H1 q.1 b) I2 as _ I4 asn fun a ha => by
    have ga := hG.above a ha
    have gt := hG.there ha
    have n0 : H1 a = none := I2.hok.fresh (by rw [z2]; exact Nat.le_of_lt (by rw [← lo2]; exact ga))
    refine ⟨by rw [z2, ← lo2]; exact Nat.le_of_lt ga, by rw [upd_ne (Nat.ne_of_lt gt)]; exact n0, ?_⟩
    obtain ⟨j, hj⟩ := List.mem_iff_getElem?.mp ha
    obtain ⟨q, x, gq, r, eg⟩ := ent j a hj
    refine ⟨[.ref x.2.1, q.2], ⟨j, q, x.2.1, hj, gq, rfl, r.2.1⟩, fun H2 => ⟨by show 2 ≤ sizeLine; decide, [.ref x.2.1, x.2.2], .cons rfl (.cons r.2.2 .nil), ⟨_, Heap.get?_push_of_some _ eg, rfl, _, rfl⟩⟩⟩
  have o12 : Oth [] H1 H2 := ⟨fun a o _ e => g5 a o (by rw [upd_ne (ne_of_none e hT0)]; exact e), fun a xs e => g5 a _ (by rw [upd_ne (ne_of_none e hT0)]; exact e)⟩
  rw [es2] at I5
  refine ⟨.ref h'.objs.size, H2, I5, rfl, q H2 h'.objs.size (as.map V.ref) o12 hT0 (g5 _ _ upd_same) (paired_idx (by rw [List.length_map]; exact lav) fun i q0 t e1 e2 => ?_)⟩
  rw [List.getElem?_map] at e2
  obtain ⟨a, ea, rfl⟩ := Option.map_eq_some_iff.mp e2
  obtain ⟨vs, ⟨j, q1, b, hj, gq, rfl, nk⟩, h2⟩ := q5 a (List.mem_of_getElem? ea)
  have hij : j = i := by
    have lj : j < as.length := (List.getElem?_eq_some_iff.mp hj).1
    exact (List.getElem?_inj lj asn).mp (hj.trans ea.symm)
  subst hij
  rw [e1] at gq
  cases gq
  exact ⟨a, b, rfl, h2, nk⟩
end
end Pw
namespace Pw
open PySem PySem.Spec PyProof.Rows L2
/-! ### who is there: small props, short paths -/
theorem fill_who {X : Pc} (h : X.Ok) : ∀ (n own : Nat) (free : Bool) (o : Path) (c : Sc) (ts : List Tp) (p : Path), own ≤ X.g.comps.length - 1 → Tp.Oks own (X.g.comps.length - 1) free ts → c.Sm →
    ∀ x ∈ Nd.ppls (fill X n o c ts p), Sm x.2.2.1 ∧ x.1.length ≤ p.length + Tp.deps ts + 1 + 4 * (X.g.comps.length - 1 - own - 1) ∧ own < X.g.comps.length - 1
  | 0, _, _, _, _, _, _, _, _, _ => fun x hx => (by simp [fill, Nd.ppls] at hx)
  | n + 1, own, free, o, c, ts, p, ho, hk, hc => by
    have kid : ∀ (q : Path) (d : Nat) (props : List Int), own < d → d ≤ X.g.comps.length - 1 → Sm props → q.length ≤ p.length + 1 → ∀ x ∈ (childOf X (fill X n) (lkAll n) q d props).ppl, Sm x.2.2.1 ∧ x.1.length ≤ p.length + Tp.deps ts + 1 + 4 * (X.g.comps.length - 1 - own - 1) ∧ own < X.g.comps.length - 1 := fun q d props h1 h2 h3 h4 x hx => by
      unfold childOf at hx
      simp only [Nd.ppl] at hx
      rcases List.mem_cons.mp hx with rfl | hx
      · exact ⟨h3, by show q.length ≤ _; omega, by omega⟩
      · obtain ⟨a, b, e⟩ := fill_who h n d true q (X.sc q d props) (X.comp d).cs q h2 (h.comp h2).oks (h.sc h2 q h3) x hx
        have dd := (h.comp h2).deps
        exact ⟨a, by omega, by omega⟩
    intro x hx
    simp only [fill, ppls_flat] at hx
    obtain ⟨it, hit, hx⟩ := List.mem_flatMap.mp hx
    obtain ⟨dd, hdd, h1, h2⟩ := lawNamed_tp _ _ it hit
    obtain ⟨a1, ⟨fr, a2⟩, a3, a4⟩ := Tp.dis_ok ts c [] [] 0 hk dd hdd
    have hix := Tp.dis_idx ts c [] [] 0 hc.index dd hdd
    have hc' : Sc.Sm { c with index := it.2.2 } := hc.idx (by rw [h2]; exact hix)
    rw [← h1] at a1 a2 a3
    have lq : (p ++ [it.1]).length = p.length + 1 := by simp
    generalize it.2.1 = t at a1 a2 a3 hx
    cases t with
    | when _ _ _ => cases a1
    | each _ _ => cases a1
    | text s => simp [nodeOf, Nd.ppl] at hx
    | «show» s => simp [nodeOf, Nd.ppl] at hx
    | input _ _ => simp [nodeOf, Nd.ppl] at hx
    | box tag key act cs =>
      simp only [nodeOf, Nd.ppl] at hx
      obtain ⟨a, b, e⟩ := fill_who h n own fr o { c with index := it.2.2 } cs (p ++ [it.1]) ho a2.2.2.2 hc' x hx
      simp only [Tp.dep] at a3
      exact ⟨a, by omega, e⟩
    | child d key props =>
      refine kid (p ++ [it.1]) d (props.map (E.val { c with index := it.2.2 })) a2.1 a2.2.1 (fun y hy => ?_) (by omega) x hx
      obtain ⟨e, he, rfl⟩ := List.mem_map.mp hy
      exact E.sm hc' e (a2.2.2.2.2 e he).2
    | part k =>
      simp only [nodeOf] at hx
      split at hx
      · rename_i hin
        have hk := h.pres k hin
        have hp := h.g.parts _ (List.getElem_mem hk)
        have e3 : X.g.parts.getD k 0 = X.g.parts[k] := by rw [List.getD_eq_getElem?_getD, List.getElem?_eq_getElem hk]; rfl
        exact kid (p ++ [it.1]) (X.g.parts.getD k 0) [] (by rw [e3]; have := a2.1; omega) (by rw [e3]; omega) (fun y hy => nomatch hy) (by omega) x hx
      · simp [Nd.ppl] at hx
theorem whos_who {X : Pc} (h : X.Good) : ∀ x ∈ X.whos, Sm x.2.2.1 ∧ x.1.length ≤ 8 := by
  have cd := h.comp (Nat.zero_le _)
  intro x hx
  rw [whos_eq] at hx
  rcases List.mem_cons.mp hx with rfl | hx
  · exact ⟨(fun y hy => nomatch hy), by simp⟩
  · have z := fill_who h.toOk 12 0 true [] (X.sc [] 0 []) (X.comp 0).cs [] (Nat.zero_le _) cd.oks (h.sc (Nat.zero_le _) [] (by intro y hy; exact nomatch hy)) x hx
    have d3 := cd.deps
    have g3 := h.g.many
    refine ⟨z.1, Nat.le_trans z.2.1 ?_⟩
    simp only [List.length_nil]
    omega
/-! ### a settled world hangs on what is told of each path -/
theorem cells_ext {X Y : Pc} (eg : Y.g = X.g) (h : ∀ q, lastOf Y.cs q = lastOf X.cs q) (p : Path) (d : Nat) : Y.cells p d = X.cells p d := by
  unfold Pc.cells Pc.comp
  rw [lastOf_fold, lastOf_fold, h, eg]
theorem child_ext {X Y : Pc} (eg : Y.g = X.g) (es : Y.st = X.st) (ep : Y.pres = X.pres) (h : ∀ q, lastOf Y.cs q = lastOf X.cs q) : child Y 12 [] 0 [] = child X 12 [] 0 [] := by
  unfold child childOf
  have e0 : Y.sc [] 0 [] = X.sc [] 0 [] := by unfold Pc.sc; rw [cells_ext eg h, es]
  have e1 : Y.comp 0 = X.comp 0 := by unfold Pc.comp; rw [eg]
  have e2 : ∀ lk, Y.reads lk = X.reads lk := fun lk => by unfold Pc.reads; rw [es]
  rw [e0, e1, e2, fill_same eg es ep 12 [] (X.sc [] 0 []) (X.comp 0).cs [] fun x _ => cells_ext eg h _ _]
theorem settle_ext {X Y : Pc} (eg : Y.g = X.g) (es : Y.st = X.st) (ep : Y.pres = X.pres) (h : ∀ q, lastOf Y.cs q = lastOf X.cs q) : Y.settle = X.settle := by
  have e : Y.settled = X.settled := by
    unfold Pc.settled Pc.whos
    rw [child_ext eg es ep h]
    exact List.map_congr_left fun x _ => by rw [cells_ext eg h]
  unfold Pc.settle
  rw [e]
  cases X; cases Y
  cases eg; cases es; cases ep
  rfl
/-! ### what deeds do -/
def withI (row : List Int) (i : Nat) (x : Int) : List Int := if i < row.length then row.take i ++ x :: row.drop (i + 1) else row
theorem withI_len (row : List Int) (i : Nat) (x : Int) : (withI row i x).length = row.length := by
  unfold withI
  split
  · simp only [List.length_append, List.length_take, List.length_cons, List.length_drop]; omega
  · rfl
theorem withI_sm {row : List Int} (h : Sm row) {i : Nat} {x : Int} (hx : 0 ≤ x ∧ x < 1000) : Sm (withI row i x) := by
  unfold withI
  split
  · intro y hy
    rcases List.mem_append.mp hy with z | z
    · exact h y (List.mem_of_mem_take z)
    · rcases List.mem_cons.mp z with rfl | z
      · exact hx
      · exact h y (List.mem_of_mem_drop z)
  · exact h
def Pc.who (X : Pc) (p : Path) : Option Who := X.whos.find? fun x => decide (x.1 = p)
theorem Pc.who_none {X : Pc} {p : Path} (h : X.who p = none) : p ∉ X.whos.map (·.1) := fun hm => by
  obtain ⟨x, hx, e⟩ := List.mem_map.mp hm
  have := List.find?_eq_none.mp h x hx
  simp only [decide_eq_true_eq] at this
  exact this e
theorem Pc.who_some {X : Pc} {p : Path} {x : Who} (h : X.who p = some x) : x ∈ X.whos ∧ x.1 = p := by
  have h1 := List.mem_of_find?_eq_some h
  have h2 := List.find?_some h
  exact ⟨h1, by simpa using h2⟩
theorem Pc.who_of {X : Pc} (g : X.Good) {x : Who} (h : x ∈ X.whos) : X.who x.1 = some x := by
  cases e : X.who x.1 with
  | none => exact absurd (List.mem_map.mpr ⟨x, h, rfl⟩) (Pc.who_none e)
  | some y =>
    obtain ⟨h1, h2⟩ := Pc.who_some e
    have nd := whos_nodup g
    obtain ⟨i, hi, ei⟩ := List.getElem_of_mem h
    obtain ⟨j, hj, ej⟩ := List.getElem_of_mem h1
    have : i = j := by
      refine (List.getElem?_inj (l := X.whos.map (·.1)) (by rw [List.length_map]; exact hi) nd).mp ?_
      rw [List.getElem?_map, List.getElem?_map, List.getElem?_eq_getElem hi, List.getElem?_eq_getElem hj, ei, ej]
      show some x.1 = some y.1
      rw [h2]
    subst this
    rw [← ei, ← ej]
/-- the proper beginnings of a path, the longest first -/
def befs (p : Path) : List Path := ((List.range p.length).map fun k => p.take k).reverse
def Pc.above (X : Pc) (p : Path) : Option Path := (befs p).find? fun q => decide (q ∈ X.whos.map (·.1))
theorem befs_mem {p q : Path} : q ∈ befs p ↔ ∃ k, k < p.length ∧ q = p.take k := by
  unfold befs
  rw [List.mem_reverse, List.mem_map]
  constructor
  · rintro ⟨k, hk, rfl⟩; exact ⟨k, List.mem_range.mp hk, rfl⟩
  · rintro ⟨k, hk, rfl⟩; exact ⟨k, List.mem_range.mpr hk, rfl⟩
theorem Pc.above_some {X : Pc} {p q : Path} (h : X.above p = some q) : q ∈ X.whos.map (·.1) ∧ ∃ k, k < p.length ∧ q = p.take k := by
  have h1 := List.mem_of_find?_eq_some h
  have h2 := List.find?_some h
  exact ⟨by simpa using h2, befs_mem.mp h1⟩
theorem Pc.above_len {X : Pc} {p q : Path} (h : X.above p = some q) : q.length < p.length := by
  obtain ⟨_, k, hk, rfl⟩ := Pc.above_some h
  rw [List.length_take]; omega
/-- the law's way to the same -/
theorem above_law {X : Pc} {p : Path} : ∀ {m : Nat}, m < p.length → p.take m ∈ X.whos.map (·.1) → (∀ k, k < p.length → p.take k ∈ X.whos.map (·.1) → k ≤ m) → X.above p = some (p.take m) := by
  intro m hm h1 h2
  cases e : X.above p with
  | none =>
    have := List.find?_eq_none.mp e (p.take m) (befs_mem.mpr ⟨m, hm, rfl⟩)
    simp only [decide_eq_true_eq] at this
    exact absurd h1 this
  | some q =>
    obtain ⟨hq, k, hk, rfl⟩ := Pc.above_some e
    have le1 := h2 k hk hq
    rcases Nat.lt_or_eq_of_le le1 with lt | rfl
    · exfalso
      -- the first found is k, but m stands before it
      have hp : (befs p).Pairwise fun a b => b.length < a.length := by
        unfold befs
        rw [List.pairwise_reverse, List.pairwise_map]
        refine List.Pairwise.imp_of_mem (fun {a b} ha hb hab => ?_) List.pairwise_lt_range
        have := List.mem_range.mp hb
        rw [List.length_take, List.length_take]; omega
      obtain ⟨_, as, bs, eb, hb⟩ := List.find?_eq_some_iff_append.mp e
      rw [eb] at hp
      have mm : p.take m ∈ as ++ p.take k :: bs := by rw [← eb]; exact befs_mem.mpr ⟨m, hm, rfl⟩
      rcases List.mem_append.mp mm with z | z
      · have := hb _ z
        simp only [h1, decide_true, Bool.not_true, Bool.false_eq_true] at this
      · rcases List.mem_cons.mp z with z | z
        · have := congrArg List.length z
          rw [List.length_take, List.length_take] at this; omega
        · have := (List.pairwise_cons.mp (List.pairwise_append.mp hp).2.1).1 _ z
          rw [List.length_take, List.length_take] at this; omega
    · rfl
theorem above_none {X : Pc} {p : Path} (h : ∀ k, k < p.length → p.take k ∉ X.whos.map (·.1)) : X.above p = none := by
  refine List.find?_eq_none.mpr fun q hq => ?_
  obtain ⟨k, hk, rfl⟩ := befs_mem.mp hq
  simp only [decide_eq_true_eq]
  exact h k hk
def Pc.put (Y : Pc) (p : Path) (c : List Int) : Pc := { Y with cs := Y.cs.filter (fun it => decide (it.1 ≠ p)) ++ [(p, c)] }
def Pc.setAt (Y : Pc) (p : Path) (c : List Int) (i : Nat) (x : Int) : Pc := if i < c.length then Y.put p (withI c i x) else Y
abbrev Sd := Pc × List Nat
def scOf (x : Who) (s : Sd) : Sc := ⟨s.1.cells x.1 x.2.1, x.2.2.1, s.1.st, 0⟩
def stepOf (X : Pc) (rec : Sd → Path → Nat → Sd) (x : Who) (s : Sd) : St1 → Sd
  | .set i e => (s.1.setAt x.1 (s.1.cells x.1 x.2.1) i (e.val (scOf x s)), s.2)
  | .put i e => ({ s.1 with st := withI s.1.st i (e.val (scOf x s)) }, s.2)
  | .up a => match X.above x.1 with
    | none => s
    | some q => rec s q a
def actF (X : Pc) : Nat → Sd → Path → Nat → Sd
  | 0, s, _, _ => s
  | n + 1, s, p, a => match X.who p with
    | none => s
    | some x => match (X.comp x.2.1).acts[a]? with
      | none => s
      | some steps => steps.foldl (stepOf X (actF X n) x) (s.1, s.2 ++ [x.2.1])
/-- what stays while deeds are done in X -/
structure Sts (X : Pc) (Y : Pc) : Prop where
  g : Y.g = X.g
  pres : Y.pres = X.pres
  good : Y.Good
  perm : (Y.cs.map (·.1)).Perm (X.whos.map (·.1))
section
variable {X Y : Pc}
theorem Sts.nd (h : Sts X Y) (gX : X.Good) : (Y.cs.map (·.1)).Nodup := h.perm.nodup_iff.mpr (whos_nodup gX)
theorem Sts.mem (h : Sts X Y) {x : Who} (hx : x ∈ X.whos) : x.1 ∈ Y.cs.map (·.1) := h.perm.mem_iff.mpr (List.mem_map.mpr ⟨x, hx, rfl⟩)
theorem lastOf_isSome {p : Path} : ∀ {cs : List (Path × List Int)}, p ∈ cs.map (·.1) → (lastOf cs p).isSome = true
  | it :: r, h => by
    rw [List.map_cons, List.mem_cons] at h
    simp only [lastOf]
    cases e : lastOf r p with
    | some z => rfl
    | none =>
      rcases h with rfl | h
      · simp
      · have := lastOf_isSome h
        rw [e] at this
        cases this
theorem lastOf_filter (p q : Path) : ∀ cs : List (Path × List Int), lastOf (cs.filter fun it => decide (it.1 ≠ p)) q = if q = p then none else lastOf cs q
  | [] => by simp [lastOf]
  | it :: r => by
    have ih := lastOf_filter p q r
    by_cases h : it.1 = p
    · rw [List.filter_cons_of_neg (by simp [h]), ih]
      by_cases e : q = p
      · rw [if_pos e, if_pos e]
      · rw [if_neg e, if_neg e]
        simp only [lastOf]
        rw [if_neg (fun z => e (z.symm.trans h)), Option.or_none]
    · rw [List.filter_cons_of_pos (by simp [h])]
      simp only [lastOf]
      rw [ih]
      by_cases e : q = p
      · rw [if_pos e, if_pos e, if_neg (fun z => h (z.trans e))]; rfl
      · rw [if_neg e, if_neg e]
theorem put_last (Y : Pc) (p : Path) (c : List Int) (q : Path) : lastOf (Y.put p c).cs q = if q = p then some c else lastOf Y.cs q := by
  show lastOf (_ ++ [(p, c)]) q = _
  rw [lastOf_app, lastOf_filter]
  simp only [lastOf, Option.or]
  by_cases e : q = p
  · rw [if_pos e, if_pos e.symm, if_pos e]
  · rw [if_neg e, if_neg (fun z => e z.symm), if_neg e]
theorem filt_perm {p : Path} : ∀ {l : List Path}, l.Nodup → p ∈ l → (l.filter (fun q => decide (q ≠ p)) ++ [p]).Perm l
  | a :: l, nd, h => by
    rw [List.nodup_cons] at nd
    by_cases e : a = p
    · subst e
      rw [List.filter_cons_of_neg (by simp)]
      have : l.filter (fun q => decide (q ≠ a)) = l := List.filter_eq_self.mpr fun q hq => by
        simp only [ne_eq, decide_not, Bool.not_eq_true', decide_eq_false_iff_not]
        intro z; exact nd.1 (z ▸ hq)
      rw [this]
      exact List.perm_append_comm
    · rw [List.filter_cons_of_pos (by simpa using e), List.cons_append]
      exact (filt_perm nd.2 ((List.mem_cons.mp h).resolve_left fun z => e z.symm)).cons a
theorem Sts.put (h : Sts X Y) (gX : X.Good) {x : Who} (hx : x ∈ X.whos) {c : List Int} (hc : Sm c ∧ c.length ≤ 4) : Sts X (Y.put x.1 c) := by
  have pm : ((Y.put x.1 c).cs.map (·.1)).Perm (X.whos.map (·.1)) := by
    show ((Y.cs.filter _ ++ [(x.1, c)]).map (·.1)).Perm _
    rw [List.map_append]
    have e : (Y.cs.filter fun it => decide (it.1 ≠ x.1)).map (·.1) = (Y.cs.map (·.1)).filter fun q => decide (q ≠ x.1) := by
      rw [List.filter_map]; rfl
    rw [e]
    exact (filt_perm (h.nd gX) (h.mem hx)).trans h.perm
  have hp := (whos_ok gX x hx).1
  refine ⟨h.g, h.pres, { g := h.good.g, st := h.good.st, sl := h.good.sl, pres := h.good.pres, pl := h.good.pl, cs := fun it hit => ?_, cl := ?_, paths := fun it hit => ?_ }, pm⟩
  · rcases List.mem_append.mp hit with z | z
    · exact h.good.cs it (List.mem_filter.mp z).1
    · rw [List.mem_singleton.mp z]; exact hc
  · have := pm.length_eq
    rw [List.length_map, List.length_map] at this
    have := whos_len gX
    omega
  · rcases List.mem_append.mp hit with z | z
    · exact h.good.paths it (List.mem_filter.mp z).1
    · rw [List.mem_singleton.mp z]; exact hp
theorem Sts.cell (h : Sts X Y) (gX : X.Good) {x : Who} (hx : x ∈ X.whos) : Sm (Y.cells x.1 x.2.1) ∧ (Y.cells x.1 x.2.1).length ≤ 4 :=
  h.good.cells (by rw [h.g]; exact (whos_ok gX x hx).2.1) x.1
theorem Sts.sc (h : Sts X Y) (gX : X.Good) {x : Who} (hx : x ∈ X.whos) (ds : List Nat) : (scOf x (Y, ds)).Sm :=
  ⟨(h.cell gX hx).1, (whos_who gX x hx).1, h.good.st, by show (0 : Int) ≤ 0 ∧ (0 : Int) < 1000; decide, (h.cell gX hx).2⟩
theorem Sts.setAt (h : Sts X Y) (gX : X.Good) {x : Who} (hx : x ∈ X.whos) {i : Nat} {v : Int} (hv : 0 ≤ v ∧ v < 1000) : Sts X (Y.setAt x.1 (Y.cells x.1 x.2.1) i v) := by
  unfold Pc.setAt
  split
  · have hc := h.cell gX hx
    exact h.put gX hx ⟨withI_sm hc.1 hv, by rw [withI_len]; exact hc.2⟩
  · exact h
theorem Sts.store (h : Sts X Y) {i : Nat} {v : Int} (hv : 0 ≤ v ∧ v < 1000) : Sts X { Y with st := withI Y.st i v } :=
  ⟨h.g, h.pres, { g := h.good.g, st := withI_sm h.good.st hv, sl := by show (withI Y.st i v).length ≤ 2; rw [withI_len]; exact h.good.sl, pres := h.good.pres, pl := h.good.pl, cs := h.good.cs, cl := h.good.cl, paths := h.good.paths }, h.perm⟩
end
/-- how many acts there are at most -/
def cap : Nat → Nat
  | 0 => 0
  | n + 1 => 1 + 2 * cap n
/-- the states a deed goes through, and how many acts -/
structure SdOk (X : Pc) (b : Nat) (z : Sd) : Prop where
  st : Sts X z.1
  d : z.2.length ≤ b
  c : ∀ k ∈ z.2, k ≤ X.g.comps.length - 1
theorem SdOk.mono {X : Pc} {b b' : Nat} {s : Sd} (h : SdOk X b s) (l : b ≤ b') : SdOk X b' s := ⟨h.st, Nat.le_trans h.d l, h.c⟩
theorem step_ok {X : Pc} (gX : X.Good) {n : Nat} (rec : ∀ b s p a, SdOk X b s → SdOk X (b + cap n) (actF X n s p a)) {x : Who} (hx : x ∈ X.whos) {b : Nat} {s : Sd} (h : SdOk X b s) {st : St1} (hst : st.Ok) : SdOk X (b + cap n) (stepOf X (actF X n) x s st) := by
  obtain ⟨Y, ds⟩ := s
  have hs := h.st
  cases st with
  | set i e => exact ⟨hs.setAt gX hx (E.sm (hs.sc gX hx ds) e hst.2.2), Nat.le_trans h.d (by omega), h.c⟩
  | put i e => exact ⟨hs.store (E.sm (hs.sc gX hx ds) e hst.2.2), Nat.le_trans h.d (by omega), h.c⟩
  | up a =>
    unfold stepOf
    cases X.above x.1 with
    | none => exact h.mono (by omega)
    | some q => exact rec b _ q a h
theorem acts_ok {X : Pc} (gX : X.Good) {x : Who} (hx : x ∈ X.whos) {a : Nat} {steps : List St1} (e : (X.comp x.2.1).acts[a]? = some steps) : steps.length ≤ 2 ∧ ∀ s ∈ steps, s.Ok :=
  (gX.comp (whos_ok gX x hx).2.1).acts steps (List.mem_of_getElem? e)
theorem steps_ok {X : Pc} (gX : X.Good) {n : Nat} (rec : ∀ b s p a, SdOk X b s → SdOk X (b + cap n) (actF X n s p a)) {x : Who} (hx : x ∈ X.whos) : ∀ (steps : List St1) (b : Nat) (s : Sd), (∀ t ∈ steps, t.Ok) → SdOk X b s → SdOk X (b + steps.length * cap n) (steps.foldl (stepOf X (actF X n) x) s)
  | [], b, s, _, h => h.mono (by omega)
  | t :: ts, b, s, hk, h => by
    have := steps_ok gX rec hx ts (b + cap n) _ (fun u hu => hk u (List.mem_cons_of_mem _ hu)) (step_ok gX rec hx h (hk t List.mem_cons_self))
    exact this.mono (by rw [List.length_cons, Nat.add_mul]; omega)
theorem SdOk.first {X : Pc} (gX : X.Good) {x : Who} (hx : x ∈ X.whos) {b : Nat} {s : Sd} (h : SdOk X b s) : SdOk X (b + 1) (s.1, s.2 ++ [x.2.1]) :=
  ⟨h.st, by rw [List.length_append]; have := h.d; simp; omega, fun k hk => by
    rcases List.mem_append.mp hk with z | z
    · exact h.c k z
    · rw [List.mem_singleton.mp z]; exact (whos_ok gX x hx).2.1⟩
theorem act_ok {X : Pc} (gX : X.Good) : ∀ (n b : Nat) (s : Sd) (p : Path) (a : Nat), SdOk X b s → SdOk X (b + cap n) (actF X n s p a)
  | 0, b, s, p, a, h => h.mono (by omega)
  | n + 1, b, s, p, a, h => by
    unfold actF
    cases e : X.who p with
    | none => exact h.mono (by omega)
    | some x =>
      obtain ⟨hx, _⟩ := Pc.who_some e
      dsimp only
      cases e2 : (X.comp x.2.1).acts[a]? with
      | none => exact h.mono (by omega)
      | some steps =>
        obtain ⟨l2, oks⟩ := acts_ok gX hx e2
        have z := steps_ok gX (act_ok gX n) hx steps (b + 1) _ oks (h.first gX hx)
        refine z.mono ?_
        have := Nat.mul_le_mul_right (cap n) l2
        simp only [cap]
        omega
/-! ### deeds -/
inductive Deed where
  | act (p : Path) (a : Nat) | enter (p : Path) (i : Nat) (v : Int) | part (k : Nat)
def Deed.toT : Deed → T
  | .act p a => .tup [.str "act", pathT p, .int (a : Int)]
  | .enter p i v => .tup [.str "enter", pathT p, .int (i : Int), .int v]
  | .part k => .tup [.str "part", .int (k : Int)]
def Pc.come (X : Pc) (k : Nat) : Pc := { X with pres := (List.range 4).filter fun j => decide (j ∈ X.pres ∨ j = k) }
def Pc.enter (X : Pc) (p : Path) (i : Nat) (v : Int) : Pc := match X.who p with
  | none => X
  | some x => X.setAt x.1 (X.cells x.1 x.2.1) i v
def Pc.acted (X : Pc) (p : Path) (a : Nat) : Sd := actF X 9 (X, []) p a
def Pc.done (X : Pc) : Deed → Pc
  | .act p a => (X.acted p a).1.settle
  | .enter p i v => (X.enter p i v).settle
  | .part k => (X.come k).settle
def Pc.did (X : Pc) : Deed → List Nat
  | .act p a => (X.acted p a).2
  | _ => []
end Pw
namespace Pw
open PySem PySem.Spec PyProof.Rows L2
theorem a_ps : ¬ ("program" : Str) = "store" := by decide +kernel
theorem a_pc : ¬ ("program" : Str) = "cells" := by decide +kernel
theorem a_pk : ¬ ("program" : Str) = "components" := by decide +kernel
theorem a_pd : ¬ ("program" : Str) = "doers" := by decide +kernel
theorem a_sc : ¬ ("store" : Str) = "cells" := by decide +kernel
theorem a_sk : ¬ ("store" : Str) = "components" := by decide +kernel
theorem a_sd : ¬ ("store" : Str) = "doers" := by decide +kernel
theorem a_ck : ¬ ("cells" : Str) = "components" := by decide +kernel
theorem a_cd : ¬ ("cells" : Str) = "doers" := by decide +kernel
theorem a_kd : ¬ ("components" : Str) = "doers" := by decide +kernel
def aFlds (vp vst : V) (dc dk ld : Addr) : List (Str × V) := [("program", vp), ("store", vst), ("cells", .ref dc), ("components", .ref dk), ("doers", .ref ld)]
section
variable {vp vst v : V} {dc dk ld : Addr}
theorem aF_p : (aFlds vp vst dc dk ld).lookup ("program" : Str) = some vp := lkp_hd
theorem aF_s : (aFlds vp vst dc dk ld).lookup ("store" : Str) = some vst := (lkp_tl (fun z => a_ps z.symm)).trans lkp_hd
theorem aF_c : (aFlds vp vst dc dk ld).lookup ("cells" : Str) = some (.ref dc) := (lkp_tl (fun z => a_pc z.symm)).trans ((lkp_tl (fun z => a_sc z.symm)).trans lkp_hd)
theorem aF_k : (aFlds vp vst dc dk ld).lookup ("components" : Str) = some (.ref dk) := (lkp_tl (fun z => a_pk z.symm)).trans ((lkp_tl (fun z => a_sk z.symm)).trans ((lkp_tl (fun z => a_ck z.symm)).trans lkp_hd))
theorem aF_d : (aFlds vp vst dc dk ld).lookup ("doers" : Str) = some (.ref ld) := (lkp_tl (fun z => a_pd z.symm)).trans ((lkp_tl (fun z => a_sd z.symm)).trans ((lkp_tl (fun z => a_cd z.symm)).trans ((lkp_tl (fun z => a_kd z.symm)).trans lkp_hd)))
theorem aF_no {m : Str} (h1 : ¬ m = "program") (h2 : ¬ m = "store") (h3 : ¬ m = "cells") (h4 : ¬ m = "components") (h5 : ¬ m = "doers") : (aFlds vp vst dc dk ld).lookup m = none :=
  (lkp_tl h1).trans ((lkp_tl h2).trans ((lkp_tl h3).trans ((lkp_tl h4).trans ((lkp_tl h5).trans rfl))))
theorem aF_put : putF "store" v (aFlds vp vst dc dk ld) = aFlds vp v dc dk ld := (putF_tl a_ps).trans (congrArg _ putF_hd)
end
theorem asc_len' : ∀ {l : List Nat} {lo m : Nat}, l.Pairwise (· < ·) → (∀ x ∈ l, lo ≤ x ∧ x < m) → l.length ≤ m - lo
  | [], _, _, _, _ => Nat.zero_le _
  | a :: l, lo, m, p, h => by
    obtain ⟨p1, p2⟩ := List.pairwise_cons.mp p
    have h1 := h a List.mem_cons_self
    have := asc_len' (lo := a + 1) (m := m) p2 fun x hx => ⟨p1 x hx, (h x (List.mem_cons_of_mem _ hx)).2⟩
    rw [List.length_cons]
    omega
theorem asc_len {l : List Nat} {m : Nat} (p : l.Pairwise (· < ·)) (h : ∀ x ∈ l, x < m) : l.length ≤ m := by
  have := asc_len' (lo := 0) p fun x hx => ⟨Nat.zero_le _, h x hx⟩
  omega
def RelW (H : Hp) : Option Who → Option V → Prop
  | none, none => True
  | some x, some v => IsT H (.tup [.int (x.2.1 : Int), intsT x.2.2.1]) v
  | _, _ => False
theorem RelW.oth {H H' : Hp} {S : List Addr} (o : Oth S H H') : ∀ {a : Option Who} {b : Option V}, RelW H a b → RelW H' a b
  | none, none, _ => True.intro
  | some _, some _, h => IsT.oth h o
  | none, some _, h => h.elim
  | some _, none, h => h.elim
def Known (H : Hp) (ws : List Who) (kvk : List (NestedKey × V)) : Prop := ∀ q : Path, RelW H (ws.find? fun x => decide (x.1 = q)) (valV kvk (pathT q).nk)
theorem Known.oth {H H' : Hp} {S : List Addr} {ws : List Who} {kvk : List (NestedKey × V)} (h : Known H ws kvk) (o : Oth S H H') : Known H' ws kvk := fun q => (h q).oth o
theorem Known.put {H : Hp} {ws : List Who} {kvk : List (NestedKey × V)} (h : Known H ws kvk) {x : Who} {v : V} (hn : x.1 ∉ ws.map (·.1)) (t : IsT H (.tup [.int (x.2.1 : Int), intsT x.2.2.1]) v) : Known H (ws ++ [x]) (putK kvk (pathT x.1).nk v) := fun q => by
  rw [valV_put, List.find?_append]
  by_cases e : q = x.1
  · subst e
    have n : (ws.find? fun y => decide (y.1 = x.1)) = none := List.find?_eq_none.mpr fun y hy => by
      simp only [decide_eq_true_eq]
      intro z
      exact hn (List.mem_map.mpr ⟨y, hy, z⟩)
    rw [n, if_pos rfl]
    simp only [List.find?_cons, decide_true, Option.or]
    exact t
  · rw [if_neg fun y => e (path_nk.mp y)]
    have n2 : ([x].find? fun y => decide (y.1 = q)) = none := by
      simp only [List.find?_cons, decide_eq_false (fun z => e z.symm : ¬ x.1 = q), List.find?_nil]
    rw [n2, Option.or_none]
    exact h q
/-- the keys are paths, unlike -/
structure KOk (kvs : List (NestedKey × V)) : Prop where
  pk : ∀ kv ∈ kvs, ∃ q : Path, kv.1 = (pathT q).nk
  nd : (kvs.map (·.1)).Nodup
theorem KOk.nil : KOk [] := ⟨(fun _ h => nomatch h), List.nodup_nil⟩
theorem putK_old {kvs : List (NestedKey × V)} {k : NestedKey} {v : V} (h : (valV kvs k).isSome = true) : putK kvs k v = kvs.map fun kv => if kv.1 = k then (kv.1, v) else kv := by
  unfold putK
  rw [if_pos (by rw [valV_any]; exact h)]
theorem KOk.put {kvs : List (NestedKey × V)} (h : KOk kvs) (q : Path) (v : V) : KOk (putK kvs (pathT q).nk v) := by
  cases e : valV kvs (pathT q).nk with
  | some z =>
    rw [putK_old (by rw [e]; rfl)]
    refine ⟨fun kv hk => ?_, ?_⟩
    · obtain ⟨kv0, h0, rfl⟩ := List.mem_map.mp hk
      split
      · exact h.pk kv0 h0
      · exact h.pk kv0 h0
    · rw [List.map_map]
      have : ((fun x : NestedKey × V => x.1) ∘ fun kv => if kv.1 = (pathT q).nk then (kv.1, v) else kv) = fun x => x.1 := by
        funext kv
        show (if kv.1 = (pathT q).nk then (kv.1, v) else kv).1 = kv.1
        split <;> rfl
      rw [this]
      exact h.nd
  | none =>
    rw [putK_new v e]
    refine ⟨fun kv hk => ?_, ?_⟩
    · rcases List.mem_append.mp hk with z | z
      · exact h.pk kv z
      · rw [List.mem_singleton.mp z]; exact ⟨q, rfl⟩
    · rw [List.map_append]
      refine List.nodup_append.mpr ⟨h.nd, by simp, fun x hx y hy => ?_⟩
      rw [List.mem_singleton.mp hy]
      intro z
      exact valV_not e (by rw [← show x = (pathT q).nk from z]; exact hx)
theorem putK_old_len {kvs : List (NestedKey × V)} {k : NestedKey} {v : V} (h : (valV kvs k).isSome = true) : (putK kvs k v).length = kvs.length := by rw [putK_old h, List.length_map]
theorem valV_at : ∀ {kvs : List (NestedKey × V)} {kv : NestedKey × V}, (kvs.map (·.1)).Nodup → kv ∈ kvs → valV kvs kv.1 = some kv.2
  | a :: r, kv, nd, h => by
    rw [List.map_cons, List.nodup_cons] at nd
    rcases List.mem_cons.mp h with rfl | h
    · exact valV_pos rfl
    · rw [valV_neg (fun z => nd.1 (by rw [z]; exact List.mem_map.mpr ⟨kv, h, rfl⟩)), valV_at nd.2 h]
theorem valV_none_not : ∀ {kvs : List (NestedKey × V)} {k : NestedKey}, k ∉ kvs.map (·.1) → valV kvs k = none
  | [], _, _ => rfl
  | a :: r, k, h => by
    rw [List.map_cons, List.mem_cons, not_or] at h
    rw [valV_neg (fun z => h.1 z.symm), valV_none_not h.2]
/-- what the dict says, as a row of cells -/
theorem told_cells {H : Hp} {cs : List (Path × List Int)} {kvs : List (NestedKey × V)} (k : KOk kvs) (t : Told H cs kvs) : ∃ cs' : List (Path × List Int), Paired (fun (kv : NestedKey × V) (it : Path × List Int) => kv.1 = (pathT it.1).nk ∧ IsT H (intsT it.2) kv.2) kvs cs' ∧ (cs'.map (·.1)).Nodup ∧ (∀ q, lastOf cs' q = lastOf cs q) ∧ ∀ it ∈ cs', lastOf cs it.1 = some it.2 := by
  have one : ∀ kv ∈ kvs, ∃ it : Path × List Int, kv.1 = (pathT it.1).nk ∧ IsT H (intsT it.2) kv.2 ∧ lastOf cs it.1 = some it.2 := fun kv hk => by
    obtain ⟨q, eq⟩ := k.pk kv hk
    have z := t q
    rw [← eq, valV_at k.nd hk] at z
    revert z
    cases e : lastOf cs q with
    | none => intro z; exact z.elim
    | some c => intro z; exact ⟨(q, c), eq, z, e⟩
  have all : ∀ l : List (NestedKey × V), (∀ kv ∈ l, kv ∈ kvs) → ∃ cs' : List (Path × List Int), Paired (fun (kv : NestedKey × V) (it : Path × List Int) => kv.1 = (pathT it.1).nk ∧ IsT H (intsT it.2) kv.2) l cs' ∧ cs'.map (fun it => (pathT it.1).nk) = l.map (·.1) ∧ ∀ it ∈ cs', lastOf cs it.1 = some it.2 := fun l => by
    induction l with
    | nil => intro _; exact ⟨[], .nil, rfl, fun _ h => nomatch h⟩
    | cons kv l ih =>
      intro hl
      obtain ⟨it, a, b, c⟩ := one kv (hl kv List.mem_cons_self)
      obtain ⟨cs', d, e, f⟩ := ih fun y hy => hl y (List.mem_cons_of_mem _ hy)
      exact ⟨it :: cs', .cons ⟨a, b⟩ d, by rw [List.map_cons, List.map_cons, e, a], fun y hy => (List.mem_cons.mp hy).elim (fun z => by rw [z]; exact c) (f y)⟩
  obtain ⟨cs', a, b, c⟩ := all kvs fun _ h => h
  have nd : (cs'.map (·.1)).Nodup := by
    have z := k.nd
    rw [← b] at z
    have z2 : ((cs'.map (·.1)).map fun p => (pathT p).nk).Nodup := by rw [List.map_map]; exact z
    exact List.Pairwise.imp (fun h e => h (by rw [e])) (List.pairwise_map.mp z2)
  refine ⟨cs', a, nd, fun q => ?_, c⟩
  by_cases hq : q ∈ cs'.map (·.1)
  · obtain ⟨it, hi, rfl⟩ := List.mem_map.mp hq
    rw [lastOf_mem nd hi, c it hi]
  · rw [(firstOf_none hq).2]
    have n : (pathT q).nk ∉ kvs.map (·.1) := by
      rw [← b]
      intro hm
      obtain ⟨it, hi, e⟩ := List.mem_map.mp hm
      exact hq (List.mem_map.mpr ⟨it, hi, path_nk.mp e⟩)
    have z := t q
    rw [valV_none_not n] at z
    revert z
    cases lastOf cs q with
    | none => intro _; rfl
    | some c => intro z; exact z.elim
theorem Told.same {H : Hp} {cs cs' : List (Path × List Int)} {kvs : List (NestedKey × V)} (h : Told H cs kvs) (e : ∀ q, lastOf cs' q = lastOf cs q) : Told H cs' kvs := fun q => by rw [e]; exact h q
theorem Told.set {H : Hp} {Y : Pc} {kvs : List (NestedKey × V)} (h : Told H Y.cs kvs) {p : Path} {c : List Int} {v : V} (t : IsT H (intsT c) v) : Told H (Y.put p c).cs (putK kvs (pathT p).nk v) := fun q => by
  rw [put_last, valV_put]
  by_cases e : q = p
  · rw [if_pos e, if_pos (path_nk.mpr e)]; exact t
  · rw [if_neg e, if_neg fun y => e (path_nk.mp y)]; exact h q
structure ActAt (P : Program) (w : World) (C : Addr) (H : Hp) (s dc dk ld : Addr) (X : Pc) (z : Sd) (kvs kvk : List (NestedKey × V)) : Prop where
  ob : ∃ dx vp vst, H s = some (.ins C dx (aFlds vp vst dc dk ld)) ∧ IsT H X.g.toT vp ∧ IsT H (intsT z.1.st) vst
  dn : DN P w H dc kvs
  told : Told H z.1.cs kvs
  kok : KOk kvs
  kl : kvs.length ≤ 70000
  dkn : DN P w H dk kvk
  known : Known H X.whos kvk
  ld : H ld = some (.lst (z.2.map natV))
  nck : dc ≠ dk
section
variable {P : Program} {w : World} {C : Addr} {H H' : Hp} {s dc dk ld : Addr} {X : Pc} {z : Sd} {kvs kvk : List (NestedKey × V)} {S : List Addr}
theorem ActAt.oth (h : ActAt P w C H s dc dk ld X z kvs kvk) (o : Oth S H H') (n1 : s ∉ S) (n2 : dc ∉ S) (n3 : dk ∉ S) (n4 : ld ∉ S) : ActAt P w C H' s dc dk ld X z kvs kvk := by
  obtain ⟨dx, vp, vst, e, a, b⟩ := h.ob
  exact ⟨⟨dx, vp, vst, o.keep _ _ n1 e, a.oth o, b.oth o⟩, h.dn.oth o n2, h.told.oth o, h.kok, h.kl, h.dkn.oth o n3, h.known.oth o, o.keep _ _ n4 h.ld, h.nck⟩
theorem ActAt.nil (h : ActAt P w C H s dc dk ld X z kvs kvk) (o : Oth [] H H') : ActAt P w C H' s dc dk ld X z kvs kvk := h.oth o (by simp) (by simp) (by simp) (by simp)
theorem ActAt.ns (h : ActAt P w C H s dc dk ld X z kvs kvk) : s ≠ dc ∧ s ≠ dk ∧ s ≠ ld ∧ dc ≠ ld ∧ dk ≠ ld := by
  obtain ⟨dx, vp, vst, e, a, b⟩ := h.ob
  obtain ⟨φ, h2⟩ := h.dn.is
  obtain ⟨ψ, h3⟩ := h.dkn.is
  exact ⟨ne_of e h2 (fun z => nomatch z), ne_of e h3 (fun z => nomatch z), ne_of e h.ld (fun z => nomatch z), ne_of h2 h.ld (fun z => nomatch z), ne_of h3 h.ld (fun z => nomatch z)⟩
theorem ActAt.nel {a : Addr} {xs : List V} (h : ActAt P w C H s dc dk ld X z kvs kvk) (e : H a = some (.lst xs)) : a ≠ s ∧ a ≠ dc := by
  obtain ⟨dx, vp, vst, e1, _, _⟩ := h.ob
  obtain ⟨φ, h2⟩ := h.dn.is
  exact ⟨ne_of e e1 (fun z => nomatch z), ne_of e h2 (fun z => nomatch z)⟩
end
/-! ### promises -/
def spWith : Sp := fun vs H Q _ => ∃ (row : List Int) (i : Nat) (x : Int) (vr : V), vs = [vr, .int (i : Int), .int x] ∧ IsT H (intsT row) vr ∧ row.length ≤ 1000 ∧
  ∀ r H', IsT H' (intsT (withI row i x)) r → Oth [] H H' → Q r H'
def spAInit (P : Program) (w : World) (C : Addr) : Sp := fun vs H Q _ => ∃ (s dx : Addr) (X : Pc) (vp vw : V), vs = [.ref s, vp, vw] ∧ H s = some (.ins C dx []) ∧ IsT H X.g.toT vp ∧ IsT H (worldT X) vw ∧ X.Good ∧ X.settle = X ∧
  ∀ dc dk ld kvs kvk H', H dc = none → H dk = none → H ld = none → ActAt P w C H' s dc dk ld X (X, []) kvs kvk → Oth [s] H H' → Q .non H'
def spAAct (P : Program) (w : World) (C : Addr) (n : Nat) : Sp := fun vs H Q _ => ∃ (s dc dk ld : Addr) (X : Pc) (z : Sd) (kvs kvk : List (NestedKey × V)) (p : Path) (a b : Nat) (vp : V), vs = [.ref s, vp, .int (a : Int)] ∧ 0 < n ∧ ActAt P w C H s dc dk ld X z kvs kvk ∧ X.Good ∧ SdOk X b z ∧ b + cap n ≤ 100000 ∧ IsT H (pathT p) vp ∧ (p ∈ X.whos.map (·.1) → p.length < n) ∧
  ∀ kvs' H', ActAt P w C H' s dc dk ld X (actF X n z p a) kvs' kvk → Oth [s, dc, ld] H H' → Q .non H'
def spAStep (P : Program) (w : World) (C : Addr) (n : Nat) : Sp := fun vs H Q _ => ∃ (s dc dk ld : Addr) (X : Pc) (z : Sd) (kvs kvk : List (NestedKey × V)) (x : Who) (st : St1) (b : Nat) (vp vq vt : V), vs = [.ref s, vp, vq, vt] ∧ ActAt P w C H s dc dk ld X z kvs kvk ∧ X.Good ∧ SdOk X b z ∧ b + cap n ≤ 100000 ∧ x ∈ X.whos ∧ x.1.length ≤ n ∧ st.Ok ∧ IsT H (pathT x.1) vp ∧ IsT H (intsT x.2.2.1) vq ∧ IsT H st.toT vt ∧
  ∀ kvs' H', ActAt P w C H' s dc dk ld X (stepOf X (actF X n) x z st) kvs' kvk → Oth [s, dc, ld] H H' → Q .non H'
def spAUp (P : Program) (w : World) (C : Addr) (n : Nat) : Sp := fun vs H Q _ => ∃ (s dc dk ld : Addr) (X : Pc) (z : Sd) (kvs kvk : List (NestedKey × V)) (x : Who) (a b : Nat) (vp : V), vs = [.ref s, vp, .int (a : Int)] ∧ ActAt P w C H s dc dk ld X z kvs kvk ∧ X.Good ∧ SdOk X b z ∧ b + cap n ≤ 100000 ∧ x ∈ X.whos ∧ x.1.length ≤ n ∧ IsT H (pathT x.1) vp ∧
  ∀ kvs' H', ActAt P w C H' s dc dk ld X (stepOf X (actF X n) x z (.up a)) kvs' kvk → Oth [s, dc, ld] H H' → Q .non H'
def spActed (P : Program) (w : World) (C : Addr) : Sp := fun vs H Q _ => ∃ (X : Pc) (p : Path) (a : Nat) (vp vw vq : V), vs = [vp, vw, vq, .int (a : Int)] ∧ IsT H X.g.toT vp ∧ IsT H (worldT X) vw ∧ X.Good ∧ X.settle = X ∧ IsT H (pathT p) vq ∧
  ∀ s dc dk ld kvs kvk H', H s = none → ActAt P w C H' s dc dk ld X (X.acted p a) kvs kvk → Oth [] H H' → Q (.ref s) H'
def DeedOk (X : Pc) : Deed → Prop
  | .act p _ => PathOk p
  | .enter p _ v => PathOk p ∧ 0 ≤ v ∧ v < 1000
  | .part k => k < X.g.parts.length
def spCellsWith : Sp := fun vs H Q _ => ∃ (cs : List (Path × List Int)) (p : Path) (i : Nat) (v : Int) (vc vq : V), vs = [vc, vq, .int (i : Int), .int v] ∧ IsT H (cellsT cs) vc ∧ IsT H (pathT p) vq ∧ PathOk p ∧ (∀ it ∈ cs, PathOk it.1 ∧ it.2.length ≤ 4) ∧ cs.length ≤ 70000 ∧
  ∀ r H', IsT H' (cellsT (cs.map fun it => (it.1, if it.1 = p then withI it.2 i v else it.2))) r → Oth [] H H' → Q r H'
def spDo : Sp := fun vs H Q _ => ∃ (X : Pc) (d : Deed) (vp vw vd : V), vs = [vp, vw, vd] ∧ IsT H X.g.toT vp ∧ IsT H (worldT X) vw ∧ IsT H d.toT vd ∧ X.Good ∧ X.settle = X ∧ X.pres.Pairwise (· < ·) ∧ DeedOk X d ∧
  ∀ v H', IsT H' (worldT (X.done d)) v → Oth [] H H' → Q v H'
def spDoneBy : Sp := fun vs H Q _ => ∃ (X : Pc) (d : Deed) (vp vw vd : V), vs = [vp, vw, vd] ∧ IsT H X.g.toT vp ∧ IsT H (worldT X) vw ∧ IsT H d.toT vd ∧ X.Good ∧ X.settle = X ∧ DeedOk X d ∧
  ∀ v H', IsT H' (natsT ((List.range 8).filter fun k => decide (k ∈ X.did d))) v → Oth [] H H' → Q v H'
end Pw
namespace Pw
open PySem PySem.Spec PyProof.Rows L2
/-- a settled world with its parts rising -/
structure Pc.Set (X : Pc) : Prop where
  good : X.Good
  eq : X.settle = X
  asc : X.pres.Pairwise (· < ·)
section
variable {X : Pc}
theorem Pc.Set.sts (h : X.Set) : Sts X X := ⟨rfl, rfl, h.good, by rw [show X.cs = X.settled from (congrArg Pc.cs h.eq).symm, settled_map h.good]⟩
theorem settle_set {Y : Pc} (g : Y.Good) (a : Y.pres.Pairwise (· < ·)) : Y.settle.Set := ⟨settle_good g, settle_twice g, a⟩
theorem acted_ok (h : X.Set) (p : Path) (a : Nat) : SdOk X 511 (X.acted p a) := by
  have := act_ok h.good 9 0 (X, []) p a ⟨h.sts, Nat.le_refl _, (fun k hk => nomatch hk)⟩
  exact this.mono (by decide)
theorem enter_sts (h : X.Set) {p : Path} {i : Nat} {v : Int} (hv : 0 ≤ v ∧ v < 1000) : Sts X (X.enter p i v) := by
  unfold Pc.enter
  cases e : X.who p with
  | none => exact h.sts
  | some x =>
    obtain ⟨hx, _⟩ := Pc.who_some e
    exact h.sts.setAt h.good hx hv
theorem come_good (h : X.Good) {k : Nat} (hk : k < X.g.parts.length) : (X.come k).Good ∧ (X.come k).pres.Pairwise (· < ·) ∧ ∀ j, j ∈ (X.come k).pres ↔ j ∈ X.pres ∨ j = k := by
  have g4 := h.g.pl
  have memc : ∀ j, j ∈ (X.come k).pres ↔ j ∈ X.pres ∨ j = k := fun j => by
    unfold Pc.come
    dsimp only
    rw [List.mem_filter, List.mem_range, decide_eq_true_eq]
    constructor
    · rintro ⟨_, h⟩; exact h
    · intro h2
      refine ⟨?_, h2⟩
      rcases h2 with h2 | h2
      · have := h.pres j h2; omega
      · omega
  have lt : ∀ j ∈ (X.come k).pres, j < X.g.parts.length := fun j hj => by
    rcases (memc j).mp hj with h2 | h2
    · exact h.pres j h2
    · rw [h2]; exact hk
  have asc : (X.come k).pres.Pairwise (· < ·) := List.Pairwise.filter _ List.pairwise_lt_range
  exact ⟨{ g := h.g, st := h.st, sl := h.sl, pres := lt, pl := asc_len asc fun j hj => by have := lt j hj; omega, cs := h.cs, cl := h.cl, paths := h.paths }, asc, memc⟩
theorem done_set (h : X.Set) {d : Deed} (hd : DeedOk X d) : (X.done d).Set ∧ (X.done d).g = X.g := by
  cases d with
  | act p a =>
    have z := (acted_ok h p a).st
    exact ⟨settle_set z.good (by rw [z.pres]; exact h.asc), z.g⟩
  | enter p i v =>
    have z := enter_sts (p := p) (i := i) h hd.2
    exact ⟨settle_set z.good (by rw [z.pres]; exact h.asc), z.g⟩
  | part k =>
    obtain ⟨a, b, _⟩ := come_good h.good hd
    exact ⟨settle_set a b, rfl⟩
theorem deed_same {Y : Pc} (e : Y.g = X.g) {d : Deed} (h : DeedOk X d) : DeedOk Y d := by
  cases d with
  | act p a => exact h
  | enter p i v => exact h
  | part k => show k < Y.g.parts.length; rw [e]; exact h
end
def Pc.runs (X : Pc) (ds : List Deed) : Pc := ds.foldl Pc.done X
def Pc.walk : Pc → List Deed → List Pc
  | X, [] => [X]
  | X, d :: ds => X :: (X.done d).walk ds
theorem walk_snoc : ∀ (ds : List Deed) (X : Pc) (d : Deed), X.walk (ds ++ [d]) = X.walk ds ++ [(X.runs ds).done d]
  | [], X, d => rfl
  | e :: ds, X, d => by
    simp only [List.cons_append, Pc.walk, walk_snoc ds]
    rfl
theorem walk_last : ∀ (ds : List Deed) (X : Pc), ∃ l, X.walk ds = l ++ [X.runs ds]
  | [], X => ⟨[], rfl⟩
  | d :: ds, X => by
    obtain ⟨l, e⟩ := walk_last ds (X.done d)
    exact ⟨X :: l, by simp only [Pc.walk, e]; rfl⟩
theorem walk_len : ∀ (ds : List Deed) (X : Pc), (X.walk ds).length = ds.length + 1
  | [], _ => rfl
  | d :: ds, X => by simp only [Pc.walk, List.length_cons, walk_len ds]
theorem runs_set {X : Pc} (h : X.Set) : ∀ (ds : List Deed), (∀ d ∈ ds, DeedOk X d) → (X.runs ds).Set ∧ (X.runs ds).g = X.g := by
  intro ds
  unfold Pc.runs
  have gen : ∀ (ds : List Deed) (Y : Pc), Y.Set → Y.g = X.g → (∀ d ∈ ds, DeedOk X d) → (ds.foldl Pc.done Y).Set ∧ (ds.foldl Pc.done Y).g = X.g := fun ds => by
    induction ds with
    | nil => intro Y a b _; exact ⟨a, b⟩
    | cons d ds ih =>
      intro Y a b hk
      obtain ⟨p, q⟩ := done_set a (deed_same b (hk d List.mem_cons_self))
      exact ih _ p (q.trans b) fun e he => hk e (List.mem_cons_of_mem _ he)
  exact gen ds X h rfl
theorem walk_set {X : Pc} : ∀ (ds : List Deed) {X : Pc}, X.Set → (∀ d ∈ ds, DeedOk X d) → ∀ Y ∈ X.walk ds, Y.Set ∧ Y.g = X.g
  | [], X, h, _, Y, hY => by rw [List.mem_singleton.mp hY]; exact ⟨h, rfl⟩
  | d :: ds, X, h, hk, Y, hY => by
    simp only [Pc.walk, List.mem_cons] at hY
    rcases hY with rfl | hY
    · exact ⟨h, rfl⟩
    · obtain ⟨p, q⟩ := done_set h (hk d List.mem_cons_self)
      obtain ⟨a, b⟩ := walk_set (X := X) ds p (fun e he => deed_same q (hk e (List.mem_cons_of_mem _ he))) Y hY
      exact ⟨a, b.trans q⟩
theorem atI_last {xs : List V} {x : V} : atI (xs ++ [x]) (-1) = some x := by
  have e : ixN (xs ++ [x]).length (-1) = some xs.length := by
    unfold ixN
    rw [if_neg (by decide), List.length_append]
    simp
    omega
  unfold atI
  rw [e]
  simp
/-! ### promises -/
def deedsT (ds : List Deed) : T := .tup (ds.map Deed.toT)
def spWorlds : Sp := fun vs H Q _ => ∃ (X : Pc) (ds : List Deed) (vp vr vd : V), vs = [vp, vr, vd] ∧ IsT H X.g.toT vp ∧ IsT H (natsT X.pres) vr ∧ IsT H (deedsT ds) vd ∧ X.st = intsOf X.g.store ∧ X.cs = [] ∧ X.Good ∧ X.pres.Pairwise (· < ·) ∧ (∀ d ∈ ds, DeedOk X d) ∧ ds.length ≤ 1000 ∧
  ∀ r H', IsT H' (.tup ((X.settle.walk ds).map worldT)) r → Oth [] H H' → Q r H'
def spRun : Sp := fun vs H Q _ => ∃ (X : Pc) (ds : List Deed) (vp vr vd : V), vs = [vp, vr, vd] ∧ IsT H X.g.toT vp ∧ IsT H (natsT X.pres) vr ∧ IsT H (deedsT ds) vd ∧ X.st = intsOf X.g.store ∧ X.cs = [] ∧ X.Good ∧ X.pres.Pairwise (· < ·) ∧ (∀ d ∈ ds, DeedOk X d) ∧ ds.length ≤ 1000 ∧
  ∀ r H', IsT H' (worldT (X.settle.runs ds)) r → Oth [] H H' → Q r H'
def spLawSet : Sp := fun vs H Q _ => ∃ (Y : Pc) (ab : Addr) (p : Path) (c : List Int) (i : Nat) (v : Int) (vp vc : V), vs = [.ref ab, vp, vc, .int (i : Int), .int v] ∧ About H ab Y ∧ Y.Good ∧ IsT H (pathT p) vp ∧ PathOk p ∧ IsT H (intsT c) vc ∧ c.length ≤ 4 ∧
  ∀ r H', About H' r (Y.setAt p c i v) → (r = ab ∨ H r = none) → Oth [] H H' → Q (.ref r) H'
def spLawSteps (n : Nat) : Sp := fun vs H Q _ => ∃ (X : Pc) (z : Sd) (p : Path) (a b : Nat) (ab pl dl : Addr) (rs : List V) (vp : V), vs = [.ref ab, .ref pl, vp, .int (a : Int), .ref dl] ∧ 0 < n ∧ About H ab z.1 ∧ H pl = some (.lst rs) ∧ WhoLs H X.whos rs ∧ H dl = some (.lst (z.2.map natV)) ∧ X.Good ∧ SdOk X b z ∧ b + cap n ≤ 100000 ∧ IsT H (pathT p) vp ∧ PathOk p ∧ (p ∈ X.whos.map (·.1) → p.length < n) ∧ ab ≠ dl ∧ pl ≠ dl ∧ (∀ v ∈ rs, v ≠ .ref dl) ∧
  ∀ r H', About H' r (actF X n z p a).1 → H' dl = some (.lst ((actF X n z p a).2.map natV)) → r ≠ dl → Oth [dl] H H' → Q (.ref r) H'
def spLawDone : Sp := fun vs H Q _ => ∃ (X : Pc) (d : Deed) (ab dl : Addr) (vd : V), vs = [.ref ab, vd, .ref dl] ∧ About H ab X ∧ X.Set ∧ IsT H d.toT vd ∧ DeedOk X d ∧ H dl = some (.lst []) ∧ ab ≠ dl ∧
  ∀ r H', H r = none → About H' r (X.done d) → H' dl = some (.lst ((X.did d).map natV)) → Oth [dl] H H' → Q (.ref r) H'
def spLawDo : Sp := fun vs H Q _ => ∃ (X : Pc) (d : Deed) (ab : Addr) (vd : V), vs = [.ref ab, vd] ∧ About H ab X ∧ X.Set ∧ IsT H d.toT vd ∧ DeedOk X d ∧
  ∀ r H', H r = none → About H' r (X.done d) → Oth [] H H' → Q (.ref r) H'
end Pw
namespace Pw
open PySem PySem.Spec PyProof.Rows L2
theorem filter_find {α β : Type} [DecidableEq β] (f : α → β) (b : β) : ∀ {l : List α}, (l.map f).Nodup → l.filter (fun x => decide (f x = b)) = (l.find? fun x => decide (f x = b)).toList
  | [], _ => rfl
  | x :: l, nd => by
    rw [List.map_cons, List.nodup_cons] at nd
    by_cases h : f x = b
    · rw [List.filter_cons_of_pos (by simpa using h), List.find?_cons, decide_eq_true h]
      have : l.filter (fun x => decide (f x = b)) = [] := List.filter_eq_nil_iff.mpr fun y hy => by
        simp only [decide_eq_true_eq]
        intro e
        exact nd.1 (by rw [h, ← e]; exact List.mem_map.mpr ⟨y, hy, rfl⟩)
      rw [this]
      rfl
    · rw [List.filter_cons_of_neg (by simpa using h), List.find?_cons, decide_eq_false h, filter_find f b nd.2]
theorem who_filter {X : Pc} (g : X.Good) (p : Path) : X.whos.filter (fun x => decide (x.1 = p)) = (X.who p).toList := filter_find (fun x : Who => x.1) p (whos_nodup g)
/-- a beginning that is somebody's -/
def isAbove (p : Path) (q : Path) : Bool := decide (q.length < p.length) && decide (p.take q.length = q)
theorem above_of {X : Pc} {p : Path} {m : Int} (hm : m ∈ ((X.whos.map (·.1)).filter (isAbove p)).map fun q => (q.length : Int)) (hle : ∀ k ∈ ((X.whos.map (·.1)).filter (isAbove p)).map (fun q => (q.length : Int)), k ≤ m) :
    ∃ j : Nat, m = (j : Int) ∧ X.above p = some (p.take j) := by
  obtain ⟨q, hq, rfl⟩ := List.mem_map.mp hm
  obtain ⟨h1, h2⟩ := List.mem_filter.mp hq
  simp only [isAbove, Bool.and_eq_true, decide_eq_true_eq] at h2
  refine ⟨q.length, rfl, above_law h2.1 (by rw [h2.2]; exact h1) fun k hk hk2 => ?_⟩
  have lk : (p.take k).length = k := by rw [List.length_take]; omega
  have z := hle ((p.take k).length : Int) (List.mem_map.mpr ⟨p.take k, List.mem_filter.mpr ⟨hk2, by simp only [isAbove, Bool.and_eq_true, decide_eq_true_eq, lk]; exact ⟨hk, trivial⟩⟩, rfl⟩)
  rw [lk] at z
  omega
theorem above_no {X : Pc} {p : Path} (h : (X.whos.map (·.1)).filter (isAbove p) = []) : X.above p = none := above_none fun k hk hm => by
  have lk : (p.take k).length = k := by rw [List.length_take]; omega
  have := List.filter_eq_nil_iff.mp h (p.take k) hm
  simp only [isAbove, Bool.and_eq_true, decide_eq_true_eq, lk] at this
  exact this ⟨hk, trivial⟩
end Pw
namespace Pw
open PySem PySem.Spec PyProof.Rows L2
def rLenK (K : PySem.W.Frag) : List V → Hp → VK → Prop := fun xs H Q => ∃ p ys, xs = [V.ref p] ∧ (SqL K H p ys ∨ SqT K H p ys) ∧ Q (V.int (ys.length : Int)) H
theorem call_lenK {X : Cx} {K : PySem.W.Frag} (hK : X.K = K) : CallR X (.builtin "len") (rLenK K) := by subst hK; exact call_len_seq
end Pw
namespace Pw
open PySem PySem.Spec PyProof.Rows L2
/-! ### texts are lists of signs -/
theorem tlA (x y : Str) : TL.tl (x ++ y) = TL.tl x ++ TL.tl y := TL.tl_append x y
theorem lenA (x y : Str) : (x ++ y).length = x.length + y.length := by rw [TL.len_tl, TL.len_tl, TL.len_tl, tlA, List.length_append]
theorem tlE : TL.tl Str.empty = [] := rfl
theorem strE (x : Str) : Str.empty ++ x = x := TL.ext_tl (by rw [tlA]; rfl)
theorem appE (x : Str) : x ++ Str.empty = x := TL.ext_tl (by rw [tlA, tlE, List.append_nil])
theorem assA (x y z : Str) : x ++ y ++ z = x ++ (y ++ z) := TL.ext_tl (by simp only [tlA, List.append_assoc])
theorem emptyS : ("" : Str) = Str.empty := by decide +kernel
def wNums : List Int → Str
  | [] => "-"
  | n :: ns => Str.join "." ((n :: ns).map numS)
def wWords : List Str → Str
  | [] => Str.empty
  | x :: xs => x ++ " " ++ wWords xs
def wCat : List Str → Str
  | [] => Str.empty
  | x :: xs => x ++ wCat xs
theorem join_cat : ∀ xs : List Str, Str.join "" xs = wCat xs
  | [] => rfl
  | [x] => (appE x).symm
  | x :: y :: r => by
    show x ++ "" ++ Str.join "" (y :: r) = x ++ wCat (y :: r)
    rw [join_cat (y :: r), emptyS, appE]
def wName : Nm → Str
  | .key t v => "k" ++ wNums t ++ "=" ++ numS v
  | .at t i => "a" ++ wNums t ++ "/" ++ wNums i
  | .part _ => Str.empty
def wAct : Option Nat → Str
  | none => "-"
  | some a => numS (a : Int)
def wPart (k : Nat) (rs : List Int) (body : Str) : Str := "{" ++ numS (k : Int) ++ ":" ++ wNums rs ++ " " ++ body ++ "}"
def wChild (n : Nm) (comp : Nat) (ps rs : List Int) (body : Str) : Str := match n with
  | .part k => wPart k rs body
  | n => "[" ++ wWords [wName n, numS (comp : Int), wNums ps, wNums rs] ++ body ++ "]"
def lastN (p : Path) : Nm := p.getLastD (.at [] [])
mutual
def Nd.wr : Nd → Str
  | .text _ s => "'" ++ s ++ "'"
  | .box p tag _ act ns => "(" ++ wWords [wName (lastN p), tag, wAct act] ++ Nd.wrs ns ++ ")"
  | .child p c ps rs ns => wChild (lastN p) c ps rs (Nd.wrs ns)
  | .place _ k => "{" ++ numS (k : Int) ++ "}"
  | .input p tag _ c v => "<" ++ wName (lastN p) ++ " " ++ tag ++ " " ++ numS (c : Int) ++ " " ++ numS v ++ ">"
def Nd.wrs : List Nd → Str
  | [] => Str.empty
  | n :: ns => n.wr ++ Nd.wrs ns
end
theorem wrs_cat : ∀ ns : List Nd, Nd.wrs ns = wCat (ns.map Nd.wr)
  | [] => rfl
  | n :: ns => by simp only [Nd.wrs, List.map_cons, wCat, wrs_cat ns]
theorem wrs_app (b : List Nd) : ∀ a : List Nd, Nd.wrs (a ++ b) = Nd.wrs a ++ Nd.wrs b
  | [] => (strE _).symm
  | n :: a => by simp only [List.cons_append, Nd.wrs, wrs_app b a, assA]
def wPage (rs : List Int) (ns : List Nd) : Str := wNums rs ++ " " ++ Nd.wrs ns ++ "!"
/-! ### how long they are -/
theorem numS_3 : ∀ n : Fin 1000, (numS ((n.1 : Nat) : Int)).length ≤ 3 := by decide +kernel
theorem numS_len {i : Int} (h : 0 ≤ i ∧ i < 1000) : (numS i).length ≤ 3 := by
  obtain ⟨n, rfl⟩ := Int.eq_ofNat_of_zero_le h.1
  exact numS_3 ⟨n, by omega⟩
theorem numS_nat {k : Nat} (h : k < 1000) : (numS (k : Int)).length ≤ 3 := numS_len ⟨by omega, by omega⟩
theorem join_len (s : Str) : ∀ xs : List Str, (Str.join s xs).length ≤ (xs.map (·.length)).sum + xs.length * s.length
  | [] => Nat.zero_le _
  | [x] => by simp [Str.join]
  | x :: y :: r => by
    have ih := join_len s (y :: r)
    show (x ++ s ++ Str.join s (y :: r)).length ≤ _
    rw [lenA, lenA]
    simp only [List.map_cons, List.sum_cons, List.length_cons, Nat.add_mul, Nat.one_mul] at ih ⊢
    omega
theorem nums_sum : ∀ {ns : List Int}, Sm ns → ((ns.map numS).map (·.length)).sum ≤ 3 * ns.length
  | [], _ => Nat.zero_le _
  | n :: ns, h => by
    have h1 := numS_len (h n List.mem_cons_self)
    have h2 := nums_sum (ns := ns) fun x hx => h x (List.mem_cons_of_mem _ hx)
    simp only [List.map_cons, List.sum_cons, List.length_cons]
    omega
theorem dash1 : (("-" : Str)).length = 1 := by decide +kernel
theorem dot1 : (("." : Str)).length = 1 := by decide +kernel
theorem nums_len {ns : List Int} (h : Sm ns) : (wNums ns).length ≤ 4 * ns.length + 1 := by
  cases ns with
  | nil => exact Nat.le_of_eq dash1
  | cons n ns =>
    have h1 := join_len "." ((n :: ns).map numS)
    have h2 := nums_sum h
    rw [dot1, List.length_map] at h1
    show (Str.join "." ((n :: ns).map numS)).length ≤ _
    omega
/-- a name that is written -/
def Nm.Fit : Nm → Prop
  | .at t i => Sm t ∧ Sm i ∧ t.length ≤ 10 ∧ i.length ≤ 10
  | .key t v => Sm t ∧ t.length ≤ 10 ∧ 0 ≤ v ∧ v < 1000
  | .part k => k < 1000
def Nm.isPart : Nm → Bool
  | .part _ => true
  | _ => false
theorem sign1 : (("k" : Str)).length = 1 ∧ (("a" : Str)).length = 1 ∧ (("=" : Str)).length = 1 ∧ (("/" : Str)).length = 1 ∧ ((" " : Str)).length = 1 ∧ (("{" : Str)).length = 1 ∧ ((":" : Str)).length = 1 ∧ (("}" : Str)).length = 1 ∧ (("[" : Str)).length = 1 ∧ (("]" : Str)).length = 1 ∧ (("(" : Str)).length = 1 ∧ ((")" : Str)).length = 1 ∧ (("<" : Str)).length = 1 ∧ ((">" : Str)).length = 1 ∧ (("'" : Str)).length = 1 ∧ (("!" : Str)).length = 1 := by decide +kernel
theorem name_len {n : Nm} (h : n.Fit) : (wName n).length ≤ 85 := by
  obtain ⟨s1, s2, s3, s4, _⟩ := sign1
  cases n with
  | «at» t i =>
    have h1 := nums_len h.1
    have h2 := nums_len h.2.1
    have := h.2.2.1
    have := h.2.2.2
    simp only [wName, lenA, s2, s4]
    omega
  | key t v =>
    have h1 := nums_len h.1
    have h2 := numS_len h.2.2
    have := h.2.1
    simp only [wName, lenA, s1, s3]
    omega
  | part k => exact Nat.zero_le _
theorem act_len {a : Option Nat} (h : ∀ n ∈ a, n < 1000) : (wAct a).length ≤ 3 := by
  cases a with
  | none => exact Nat.le_trans (Nat.le_of_eq dash1) (by decide)
  | some n => exact numS_nat (h n rfl)
theorem part_len {k : Nat} {rs : List Int} {body : Str} (hk : k < 1000) (hr : Sm rs) (lr : rs.length ≤ 2) : (wPart k rs body).length ≤ 16 + body.length := by
  obtain ⟨_, _, _, _, s5, s6, s7, s8, _⟩ := sign1
  have h1 := numS_nat hk
  have h2 := nums_len hr
  simp only [wPart, lenA, s5, s6, s7, s8]
  omega
theorem part_pos {k : Nat} {rs : List Int} {body : Str} : 0 < (wPart k rs body).length := by
  obtain ⟨_, _, _, _, s5, s6, s7, s8, _⟩ := sign1
  simp only [wPart, lenA, s5, s6, s7, s8]
  omega
theorem child_len {n : Nm} {c : Nat} {ps rs : List Int} {body : Str} (hn : n.Fit) (hc : c < 1000) (hp : Sm ps) (lp : ps.length ≤ 2) (hr : Sm rs) (lr : rs.length ≤ 2) : (wChild n c ps rs body).length ≤ 120 + body.length := by
  obtain ⟨_, _, _, _, s5, s6, s7, s8, s9, s10, _⟩ := sign1
  cases n with
  | part k =>
    have := part_len (body := body) hn hr lr
    show (wPart k rs body).length ≤ _
    omega
  | «at» t i | key t i =>
    have h0 := name_len hn
    have h1 := numS_nat hc
    have h2 := nums_len hr
    have h3 := nums_len hp
    have e0 : Str.empty.length = 0 := rfl
    simp only [wChild, wWords, lenA, s5, s9, s10, e0]
    omega
mutual
/-- what is known of the nodes of a page that is written -/
def Nd.Fit : Nd → Prop
  | .text p s => p ≠ [] ∧ s.length ≤ 3
  | .box p tag _ act ns => p ≠ [] ∧ (lastN p).Fit ∧ (lastN p).isPart = false ∧ tag.length ≤ 3 ∧ (∀ n ∈ act, n < 1000) ∧ Nd.Fits ns
  | .input p tag _ c v => p ≠ [] ∧ (lastN p).Fit ∧ (lastN p).isPart = false ∧ tag.length ≤ 3 ∧ c < 1000 ∧ 0 ≤ v ∧ v < 1000
  | .child p c ps rs ns => p ≠ [] ∧ (lastN p).Fit ∧ c < 1000 ∧ Sm ps ∧ ps.length ≤ 2 ∧ Sm rs ∧ rs.length ≤ 2 ∧ Nd.Fits ns
  | .place p k => p ≠ [] ∧ k < 1000
def Nd.Fits : List Nd → Prop
  | [] => True
  | n :: ns => n.Fit ∧ Nd.Fits ns
end
theorem fits_of : ∀ {a : List Nd}, (∀ n ∈ a, n.Fit) → Nd.Fits a
  | [], _ => trivial
  | n :: a, h => ⟨h n List.mem_cons_self, fits_of fun x hx => h x (List.mem_cons_of_mem _ hx)⟩
theorem fits_mem : ∀ {a : List Nd}, Nd.Fits a → ∀ n ∈ a, n.Fit
  | m :: a, h, n, hn => by
    rcases List.mem_cons.mp hn with rfl | hn
    · exact h.1
    · exact fits_mem h.2 n hn
mutual
theorem Nd.wr_len : ∀ n : Nd, n.Fit → n.wr.length ≤ 120 * n.cnt
  | .text _ s, h => by
    obtain ⟨_, _, _, _, s5, s6, s7, s8, s9, s10, s11, s12, s13, s14, s15, _⟩ := sign1
    have h : s.length ≤ 3 := h.2
    simp only [Nd.wr, Nd.cnt, lenA, s15]; omega
  | .box p tag _ act ns, h => by
    obtain ⟨_, _, _, _, s5, s6, s7, s8, s9, s10, s11, s12, _⟩ := sign1
    obtain ⟨_, h1, _, h2, h3, h4⟩ := h
    have := name_len h1
    have := act_len h3
    have := Nd.wrs_len ns h4
    have e0 : Str.empty.length = 0 := rfl
    simp only [Nd.wr, Nd.cnt, wWords, lenA, s5, s11, s12, e0]; omega
  | .input p tag _ c v, h => by
    obtain ⟨_, _, _, _, s5, s6, s7, s8, s9, s10, s11, s12, s13, s14, _⟩ := sign1
    obtain ⟨_, h1, _, h2, h3, h4⟩ := h
    have := name_len h1
    have := numS_nat h3
    have := numS_len h4
    simp only [Nd.wr, Nd.cnt, lenA, s5, s13, s14]; omega
  | .child p c ps rs ns, h => by
    obtain ⟨_, h1, h2, h3, h4, h5, h6, h7⟩ := h
    have := Nd.wrs_len ns h7
    have := child_len (body := Nd.wrs ns) h1 h2 h3 h4 h5 h6
    simp only [Nd.wr, Nd.cnt]; omega
  | .place _ k, h => by
    obtain ⟨_, _, _, _, s5, s6, s7, s8, _⟩ := sign1
    have := numS_nat h.2
    simp only [Nd.wr, Nd.cnt, lenA, s6, s8]; omega
theorem Nd.wrs_len : ∀ ns : List Nd, Nd.Fits ns → (Nd.wrs ns).length ≤ 120 * Nd.cnts ns
  | [], _ => Nat.zero_le _
  | n :: ns, h => by
    have := Nd.wr_len n h.1
    have := Nd.wrs_len ns h.2
    simp only [Nd.wrs, Nd.cnts, lenA]; omega
end
theorem lastN_snoc (p : Path) (n : Nm) : lastN (p ++ [n]) = n := by
  unfold lastN
  rw [List.getLastD_eq_getLast?, List.getLast?_append]
  rfl
/-! ### the names of a page are short -/
theorem named_fit : ∀ (ds : List Dr) (tk : List Nm), (∀ d ∈ ds, d.other.Fit ∧ d.other.isPart = false) → (∀ d ∈ ds, d.wish.Fit ∧ (d.wish.isPart = true → ∃ k, d.tp = .part k)) → ∀ x ∈ lawNamed tk ds, x.1.Fit ∧ (x.1.isPart = true → ∃ k, x.2.1 = .part k)
  | [], tk, _, _, x, h => nomatch h
  | d :: ds, tk, h1, h2, x, h => by
    simp only [lawNamed, List.mem_cons] at h
    rcases h with rfl | h
    · dsimp only
      unfold lawName
      have a := h1 d List.mem_cons_self
      have b := h2 d List.mem_cons_self
      cases e : d.wish with
      | key t v =>
        dsimp only
        rw [e] at b
        split
        · exact ⟨a.1, fun z => by rw [a.2] at z; cases z⟩
        · exact b
      | _ => dsimp only; rw [e] at b; exact b
    · exact named_fit ds _ (fun y hy => h1 y (List.mem_cons_of_mem _ hy)) (fun y hy => h2 y (List.mem_cons_of_mem _ hy)) x h
theorem Sm.snoc {xs : List Int} {i : Int} (h : Sm xs) (hi : 0 ≤ i ∧ i < 1000) : Sm (xs ++ [i]) := fun x hx => by
  rcases List.mem_append.mp hx with z | z
  · exact h x z
  · rw [List.mem_singleton.mp z]; exact hi
theorem Sm.nil' : Sm [] := fun x hx => nomatch hx
mutual
theorem Tp.dis1_fit {own last : Nat} : ∀ {free : Bool} (t : Tp) (c : Sc) (addr reps : List Int), t.Ok own last free → c.Sm → Sm addr → Sm reps → addr.length + 2 * t.dep ≤ 10 → reps.length + t.dep ≤ 10 → t.cnt ≤ 900 → (∀ k ∈ t.pts, k < 1000) → ∀ d ∈ t.dis1 c addr reps, (d.other.Fit ∧ d.other.isPart = false) ∧ (d.wish.Fit ∧ (d.wish.isPart = true → ∃ k, d.tp = .part k))
  | _, .when e cs os, c, addr, reps, hk, hc, sa, sr, h1, h2, h3, h4, d, h => by
    simp only [Tp.dep] at h1 h2
    simp only [Tp.cnt] at h3
    simp only [Tp.pts, List.mem_append] at h4
    simp only [Tp.dis1] at h
    split at h
    · exact Tp.dis_fit os c _ reps 0 hk.2.2 hc (sa.snoc (by decide)) sr (by simp; omega) (by omega) (by omega) (fun k hk' => h4 k (.inr hk')) d h
    · exact Tp.dis_fit cs c _ reps 0 hk.2.1 hc (sa.snoc (by decide)) sr (by simp; omega) (by omega) (by omega) (fun k hk' => h4 k (.inl hk')) d h
  | _, .each e cs, c, addr, reps, hk, hc, sa, sr, h1, h2, h3, h4, d, h => by
    simp only [Tp.dep] at h1 h2
    simp only [Tp.cnt] at h3
    simp only [Tp.pts] at h4
    simp only [Tp.dis1, List.mem_flatMap] at h
    obtain ⟨n, hn, h⟩ := h
    have hn := List.mem_range.mp hn
    have := mod6 (e.val c)
    exact Tp.dis_fit cs _ addr _ 0 hk.2 (hc.idx ⟨by omega, by omega⟩) sa (sr.snoc ⟨by omega, by omega⟩) (by omega) (by simp; omega) (by omega) h4 d h
  | _, .text _, c, addr, reps, hk, hc, sa, sr, h1, h2, h3, h4, d, h | _, .show _, c, addr, reps, hk, hc, sa, sr, h1, h2, h3, h4, d, h | _, .input _ _, c, addr, reps, hk, hc, sa, sr, h1, h2, h3, h4, d, h => by
    simp only [Tp.dis1, List.mem_singleton] at h
    subst h
    exact ⟨⟨⟨sa, sr, by omega, by omega⟩, rfl⟩, ⟨sa, sr, by omega, by omega⟩, fun z => by cases z⟩
  | _, .part k, c, addr, reps, hk, hc, sa, sr, h1, h2, h3, h4, d, h => by
    simp only [Tp.dis1, List.mem_singleton] at h
    subst h
    exact ⟨⟨⟨sa, sr, by omega, by omega⟩, rfl⟩, h4 k (by simp [Tp.pts]), fun _ => ⟨k, rfl⟩⟩
  | _, .box _ key _ _, c, addr, reps, hk, hc, sa, sr, h1, h2, h3, h4, d, h => by
    simp only [Tp.dis1, List.mem_singleton] at h
    subst h
    refine ⟨⟨⟨sa, sr, by omega, by omega⟩, rfl⟩, ?_⟩
    cases key with
    | none => exact ⟨⟨sa, sr, by omega, by omega⟩, fun z => by cases z⟩
    | some e => exact ⟨⟨sa, by omega, E.sm hc e (hk.2.1 e rfl).2.2⟩, fun z => by cases z⟩
  | _, .child _ key _, c, addr, reps, hk, hc, sa, sr, h1, h2, h3, h4, d, h => by
    simp only [Tp.dis1, List.mem_singleton] at h
    subst h
    refine ⟨⟨⟨sa, sr, by omega, by omega⟩, rfl⟩, ?_⟩
    cases key with
    | none => exact ⟨⟨sa, sr, by omega, by omega⟩, fun z => by cases z⟩
    | some e => exact ⟨⟨sa, by omega, E.sm hc e (hk.2.2.1 e rfl).2.2⟩, fun z => by cases z⟩
theorem Tp.dis_fit {own last : Nat} : ∀ {free : Bool} (ts : List Tp) (c : Sc) (before reps : List Int) (k : Nat), Tp.Oks own last free ts → c.Sm → Sm before → Sm reps → before.length + 2 * Tp.deps ts + 1 ≤ 10 → reps.length + Tp.deps ts ≤ 10 → k + Tp.cnts ts ≤ 900 → (∀ j ∈ Tp.ptss ts, j < 1000) → ∀ d ∈ Tp.dis c before reps k ts, (d.other.Fit ∧ d.other.isPart = false) ∧ (d.wish.Fit ∧ (d.wish.isPart = true → ∃ k, d.tp = .part k))
  | _, [], c, before, reps, k, hk, hc, sb, sr, h1, h2, h3, h4, d, h => nomatch h
  | _, t :: ts, c, before, reps, k, hk, hc, sb, sr, h1, h2, h3, h4, d, h => by
    simp only [Tp.deps] at h1 h2
    simp only [Tp.cnts] at h3
    simp only [Tp.ptss, List.mem_append] at h4
    simp only [Tp.dis, List.mem_append] at h
    have hp : 0 < t.cnt := by cases t <;> simp [Tp.cnt]
    rcases h with h | h
    · exact Tp.dis1_fit t c _ reps hk.1 hc (sb.snoc ⟨by omega, by omega⟩) sr (by simp; omega) (by omega) (by omega) (fun j hj => h4 j (.inl hj)) d h
    · exact Tp.dis_fit ts c before reps (k + 1) hk.2 hc sb sr (by omega) (by omega) (by omega) (fun j hj => h4 j (.inr hj)) d h
end
theorem reads_sm (X : Pc) (lk : List Int) (h : X.st.length ≤ 2) : Sm (X.reads lk) := fun x hx => by
  unfold Pc.reads at hx
  obtain ⟨n, hn, rfl⟩ := List.mem_map.mp hx
  have := List.mem_range.mp (List.mem_filter.mp hn).1
  exact ⟨Int.natCast_nonneg n, by show (n : Int) < 1000; omega⟩
theorem tag_len {tag : Str} (h : tag = "p" ∨ tag = "div" ∨ tag = "li") : tag.length ≤ 3 := by rcases h with rfl | rfl | rfl <;> decide +kernel
theorem tagq_len {tag : Str} (h : tag = "q") : tag.length ≤ 3 := by subst h; decide +kernel
theorem text_len {s : Str} (h : s = "a" ∨ s = "b c" ∨ s = "7" ∨ s = "x") : s.length ≤ 3 := by rcases h with rfl | rfl | rfl | rfl <;> decide +kernel
theorem snoc_ne {p : Path} {n : Nm} : p ++ [n] ≠ [] := by simp
theorem fill_fit {X : Pc} (h : X.Ok) : ∀ (n own : Nat) (free : Bool) (o : Path) (c : Sc) (ts : List Tp) (p : Path), own ≤ X.g.comps.length - 1 → Tp.Oks own (X.g.comps.length - 1) free ts → Tp.deps ts ≤ 3 → Tp.cnts ts ≤ 800 → (∀ k ∈ Tp.ptss ts, k < 1000) → c.Sm → Nd.Fits (fill X n o c ts p)
  | 0, _, _, _, _, _, _, _, _, _, _, _, _ => trivial
  | n + 1, own, free, o, c, ts, p, ho, hk, hd, hcn, hpt, hc => by
    have kid : ∀ (q : Path) (nm : Nm) (d : Nat) (props : List Int), d ≤ X.g.comps.length - 1 → nm.Fit → Sm props → props.length ≤ 2 → (childOf X (fill X n) (lkAll n) (q ++ [nm]) d props).Fit := fun q nm d props h2 hq sp lp => by
      have cd := h.comp h2
      refine ⟨snoc_ne, by rw [lastN_snoc]; exact hq, by have := h.g.many; omega, sp, lp, reads_sm X _ h.sl, Nat.le_trans (reads_len X _) h.sl, ?_⟩
      refine fill_fit h n d true (q ++ [nm]) (X.sc (q ++ [nm]) d props) (X.comp d).cs (q ++ [nm]) h2 cd.oks cd.deps (by have := cd.cnts; omega) (fun k hk' => ?_) (h.sc h2 _ sp)
      have := cd.pts.mem_iff.mp hk'
      split at this
      · have := List.mem_range.mp this; have := h.g.pl; omega
      · cases this
    refine fits_of fun nd hnd => ?_
    simp only [fill] at hnd
    obtain ⟨it, hit, rfl⟩ := List.mem_map.mp hnd
    have df := Tp.dis_fit ts c [] [] 0 hk hc Sm.nil' Sm.nil' (by simp; omega) (by simp; omega) (by omega) hpt
    obtain ⟨nf, npt⟩ := named_fit _ [] (fun d hd' => (df d hd').1) (fun d hd' => (df d hd').2) it hit
    obtain ⟨dd, hdd, h1, h2⟩ := lawNamed_tp _ _ it hit
    obtain ⟨a1, ⟨fr, a2⟩, a3, a4⟩ := Tp.dis_ok ts c [] [] 0 hk dd hdd
    have ai := Tp.dis_idx ts c [] [] 0 hc.index dd hdd
    have ap := Tp.dis_pts ts c [] [] 0 dd hdd
    have ac := (Tp.dis_tp ts c [] [] 0 dd hdd).2.1
    rw [← h2] at ai
    rw [← h1] at a1 a2 a3 ap ac
    have hci : Sc.Sm { c with index := it.2.2 } := hc.idx ai
    generalize it.2.1 = t at a1 a2 a3 ap npt ac
    have nop : (∀ k, t ≠ .part k) → it.1.isPart = false := fun z => by
      cases e : it.1.isPart with
      | false => rfl
      | true => exact absurd (npt e).choose_spec (z _)
    cases t with
    | when _ _ _ => cases a1
    | each _ _ => cases a1
    | text s => exact ⟨snoc_ne, text_len a2⟩
    | «show» s => exact ⟨snoc_ne, numS_len (E.sm hci s a2.2)⟩
    | input tag cell => exact ⟨snoc_ne, by rw [lastN_snoc]; exact nf, by rw [lastN_snoc]; exact nop (by simp), tagq_len a2.1, by have := a2.2; omega, hc.cells.get _⟩
    | box tag key act cs =>
      simp only [Tp.dep] at a3
      exact ⟨snoc_ne, by rw [lastN_snoc]; exact nf, by rw [lastN_snoc]; exact nop (by simp), tag_len a2.1, (fun m hm => by have := a2.2.2.1 m hm; omega), fill_fit h n own fr o { c with index := it.2.2 } cs (p ++ [it.1]) ho a2.2.2.2 (by omega) (by simp only [Tp.cnt] at ac; omega) (fun k hk' => hpt k (ap.mem hk')) hci⟩
    | child d key props =>
      refine kid _ _ d _ a2.2.1 nf (fun x hx => ?_) (by rw [List.length_map]; exact a2.2.2.2.1)
      obtain ⟨e, he, rfl⟩ := List.mem_map.mp hx
      exact E.sm hci e (a2.2.2.2.2 e he).2
    | part k =>
      simp only [nodeOf]
      split
      · rename_i hin
        have hk := h.pres k hin
        have hp := h.g.parts _ (List.getElem_mem hk)
        have e3 : X.g.parts.getD k 0 = X.g.parts[k] := by rw [List.getD_eq_getElem?_getD, List.getElem?_eq_getElem hk]; rfl
        rw [e3]
        exact kid _ _ _ _ (by omega) nf Sm.nil' (by simp)
      · exact ⟨snoc_ne, hpt k (ap.mem (by simp [Tp.pts]))⟩
/-! ### promises -/
def spNums : Sp := fun vs H Q _ => ∃ (ns : List Int) (v : V), vs = [v] ∧ IsT H (intsT ns) v ∧ Sm ns ∧ ns.length ≤ 1000 ∧ ∀ H', Oth [] H H' → Q (.str (wNums ns)) H'
def spWName : Sp := fun vs H Q _ => ∃ (n : Nm) (v : V), vs = [v] ∧ IsT H n.toT v ∧ n.Fit ∧ n.isPart = false ∧ ∀ H', Oth [] H H' → Q (.str (wName n)) H'
def spWAct : Sp := fun vs H Q _ => ∃ (a : Option Nat) (v : V), vs = [v] ∧ IsT H (actT a) v ∧ (∀ n ∈ a, n < 1000) ∧ Q (.str (wAct a)) H
def spWords : Sp := fun vs H Q _ => ∃ (l : Addr) (ws : List Str), vs = [.ref l] ∧ H l = some (.lst (ws.map V.str)) ∧ ws.length ≤ 10 ∧ (∀ x ∈ ws, x.length ≤ 100) ∧ ∀ H', Oth [] H H' → Q (.str (wWords ws)) H'
def spWPart (n : Nat) : Sp := fun vs H Q _ => ∃ (k : Nat) (rs : List Int) (ns : List Nd) (v1 v2 : V), vs = [.int (k : Int), v1, v2] ∧ IsT H (intsT rs) v1 ∧ IsT H (.tup (Nd.toTs ns)) v2 ∧ k < 1000 ∧ Sm rs ∧ rs.length ≤ 2 ∧ Nd.Fits ns ∧ Nd.cnts ns ≤ 70000 ∧ Nd.hts ns < n ∧
  ∀ H', Oth [] H H' → Q (.str (wPart k rs (Nd.wrs ns))) H'
def spWChild (n : Nat) : Sp := fun vs H Q _ => ∃ (nm : Nm) (c : Nat) (ps rs : List Int) (ns : List Nd) (v0 v1 v2 v3 : V), vs = [v0, .int (c : Int), v1, v2, v3] ∧ IsT H nm.toT v0 ∧ IsT H (intsT ps) v1 ∧ IsT H (intsT rs) v2 ∧ IsT H (.tup (Nd.toTs ns)) v3 ∧
  nm.Fit ∧ c < 1000 ∧ Sm ps ∧ ps.length ≤ 2 ∧ Sm rs ∧ rs.length ≤ 2 ∧ Nd.Fits ns ∧ Nd.cnts ns ≤ 70000 ∧ Nd.hts ns < n ∧
  ∀ H', Oth [] H H' → Q (.str (wChild nm c ps rs (Nd.wrs ns))) H'
def spWNode (n : Nat) : Sp := fun vs H Q _ => ∃ (nd : Nd) (v : V), vs = [v] ∧ IsT H nd.toT v ∧ nd.Fit ∧ nd.cnt ≤ 70000 ∧ nd.ht ≤ n ∧ ∀ H', Oth [] H H' → Q (.str nd.wr) H'
def spWNodes (n : Nat) : Sp := fun vs H Q _ => ∃ (ns : List Nd) (v : V), vs = [v] ∧ IsT H (.tup (Nd.toTs ns)) v ∧ Nd.Fits ns ∧ Nd.cnts ns ≤ 70000 ∧ Nd.hts ns < n ∧ ∀ H', Oth [] H H' → Q (.str (Nd.wrs ns)) H'
def spWPage (n : Nat) : Sp := fun vs H Q _ => ∃ (rs : List Int) (ns : List Nd) (v : V), vs = [v] ∧ IsT H (.tup [intsT rs, .tup (Nd.toTs ns)]) v ∧ Sm rs ∧ rs.length ≤ 2 ∧ Nd.Fits ns ∧ Nd.cnts ns ≤ 70000 ∧ Nd.hts ns < n ∧
  ∀ H', Oth [] H H' → Q (.str (wPage rs ns)) H'
theorem szT {n : Nat} (h : n ≤ 10000000) : n ≤ sizeLine := Nat.le_trans h (by decide)
theorem natAbs_nat {k : Nat} (h : k < 1000) : ((k : Int)).natAbs.log2 < 1920 := natAbs_log ⟨by omega, by omega⟩
theorem sum_map_le {α : Type} (f : α → Nat) (m : Nat) : ∀ l : List α, (∀ x ∈ l, f x ≤ m) → (l.map f).sum ≤ l.length * m
  | [], _ => Nat.zero_le _
  | x :: l, h => by
    have h1 := h x List.mem_cons_self
    have h2 := sum_map_le f m l fun y hy => h y (List.mem_cons_of_mem _ hy)
    simp only [List.map_cons, List.sum_cons, List.length_cons, Nat.add_mul, Nat.one_mul]
    omega
theorem words_cat : ∀ ws : List Str, wCat (ws.map fun x => x ++ " ") = wWords ws
  | [] => rfl
  | x :: ws => by simp only [List.map_cons, wCat, wWords, words_cat ws]
theorem join_txt (y : Str) (parts : List Str) : Txt.join y parts = Str.join y parts := TL.join_eq y parts
theorem wcat_len : ∀ xs : List Str, (wCat xs).length = (xs.map (·.length)).sum
  | [] => rfl
  | x :: xs => by simp only [wCat, lenA, List.map_cons, List.sum_cons, wcat_len xs]
theorem path_last {H : Hp} {p : Path} {v : V} (h : IsT H (pathT p) v) (hp : p ≠ []) : ∃ a xs x, v = .ref a ∧ H a = some (.tup (xs ++ [x])) ∧ IsT H (lastN p).toT x := by
  obtain ⟨a, xs, rfl, e, pp⟩ := h.inv
  obtain ⟨q, n, rfl⟩ : ∃ q n, p = q ++ [n] := ⟨p.dropLast, p.getLast hp, (List.dropLast_concat_getLast hp).symm⟩
  obtain ⟨l, g⟩ := paired_get pp
  rw [List.length_map, List.length_append, List.length_cons, List.length_nil] at l
  obtain ⟨ys, y, rfl⟩ : ∃ ys y, xs = ys ++ [y] := by
    have : xs ≠ [] := fun z => by rw [z] at l; simp at l
    exact ⟨xs.dropLast, xs.getLast this, (List.dropLast_concat_getLast this).symm⟩
  have ly : ys.length = q.length := by rw [List.length_append] at l; simpa using l
  refine ⟨a, ys, y, rfl, e, ?_⟩
  rw [lastN_snoc]
  refine g q.length _ _ ?_ ?_
  · rw [List.getElem?_map, List.getElem?_append_right (Nat.le_refl _), Nat.sub_self]; rfl
  · rw [List.getElem?_append_right (by omega), ly, Nat.sub_self]; rfl
end Pw
namespace Pw
open PySem PySem.Spec PyProof.Rows L2
mutual
/-- the child that is part k, in the own contents -/
def Nd.pf (k : Nat) : Nd → Option Nd
  | .child p c ps rs ns => if lastN p = .part k then some (.child p c ps rs ns) else none
  | .box _ _ _ _ ns => Nd.pfs k ns
  | .text _ _ => none
  | .input _ _ _ _ _ => none
  | .place _ _ => none
def Nd.pfs (k : Nat) : List Nd → Option Nd
  | [] => none
  | n :: ns => (n.pf k).or (Nd.pfs k ns)
end
mutual
/-- all children, the outer ones first -/
def Nd.ev : Nd → List Nd
  | .child p c ps rs ns => .child p c ps rs ns :: Nd.evs ns
  | .box _ _ _ _ ns => Nd.evs ns
  | .text _ _ => []
  | .input _ _ _ _ _ => []
  | .place _ _ => []
def Nd.evs : List Nd → List Nd
  | [] => []
  | n :: ns => n.ev ++ Nd.evs ns
end
mutual
def Nd.NoP : Nd → Prop
  | .child p _ _ _ ns => (lastN p).isPart = false ∧ Nd.NoPs ns
  | .box _ _ _ _ ns => Nd.NoPs ns
  | .text _ _ => True
  | .input _ _ _ _ _ => True
  | .place _ _ => True
def Nd.NoPs : List Nd → Prop
  | [] => True
  | n :: ns => n.NoP ∧ Nd.NoPs ns
end
mutual
def Nd.Own : Nd → Prop
  | .child _ _ _ _ ns => Nd.NoPs ns
  | .box _ _ _ _ ns => Nd.Owns ns
  | .text _ _ => True
  | .input _ _ _ _ _ => True
  | .place _ _ => True
def Nd.Owns : List Nd → Prop
  | [] => True
  | n :: ns => n.Own ∧ Nd.Owns ns
end
mutual
def Nd.pk : Nd → List Nat
  | .child p _ _ _ _ => match lastN p with
    | .part k => [k]
    | _ => []
  | .box _ _ _ _ ns => Nd.pks ns
  | .text _ _ => []
  | .input _ _ _ _ _ => []
  | .place _ _ => []
def Nd.pks : List Nd → List Nat
  | [] => []
  | n :: ns => n.pk ++ Nd.pks ns
end
def isP (k : Nat) (n : Nd) : Bool := decide (lastN n.path = .part k)
theorem notP {n : Nm} {k : Nat} (h : n.isPart = false) : n ≠ .part k := fun e => by rw [e] at h; cases h
mutual
theorem Nd.ev_nop {k : Nat} : ∀ n : Nd, n.NoP → n.ev.find? (isP k) = none
  | .child p _ _ _ ns, h => by
    rw [Nd.ev, List.find?_cons_of_neg, Nd.evs_nop ns h.2]
    show ¬ decide (lastN p = .part k) = true
    rw [decide_eq_true_iff]
    exact notP h.1
  | .box _ _ _ _ ns, h => Nd.evs_nop ns h
  | .text _ _, _ => rfl
  | .input _ _ _ _ _, _ => rfl
  | .place _ _, _ => rfl
theorem Nd.evs_nop {k : Nat} : ∀ ns : List Nd, Nd.NoPs ns → (Nd.evs ns).find? (isP k) = none
  | [], _ => rfl
  | n :: ns, h => by rw [Nd.evs, List.find?_append, Nd.ev_nop n h.1, Nd.evs_nop ns h.2]; rfl
end
mutual
theorem Nd.ev_own {k : Nat} : ∀ n : Nd, n.Own → n.ev.find? (isP k) = n.pf k
  | .child p c ps rs ns, h => by
    rw [Nd.ev, Nd.pf]
    by_cases e : lastN p = .part k
    · rw [List.find?_cons_of_pos (by show decide (lastN p = .part k) = true; rw [decide_eq_true e]), if_pos e]
    · rw [List.find?_cons_of_neg (by show ¬ decide (lastN p = .part k) = true; rw [decide_eq_true_iff]; exact e), if_neg e]
      exact Nd.evs_nop ns h
  | .box _ _ _ _ ns, h => Nd.evs_own ns h
  | .text _ _, _ => rfl
  | .input _ _ _ _ _, _ => rfl
  | .place _ _, _ => rfl
theorem Nd.evs_own {k : Nat} : ∀ ns : List Nd, Nd.Owns ns → (Nd.evs ns).find? (isP k) = Nd.pfs k ns
  | [], _ => rfl
  | n :: ns, h => by rw [Nd.evs, List.find?_append, Nd.ev_own n h.1, Nd.evs_own ns h.2]; rfl
end
mutual
theorem Nd.pf_pk {k : Nat} {m : Nd} : ∀ n : Nd, n.pf k = some m → k ∈ n.pk
  | .child p c ps rs ns, h => by
    rw [Nd.pf] at h
    by_cases e : lastN p = .part k
    · rw [Nd.pk, e]; simp
    · rw [if_neg e] at h; cases h
  | .box _ _ _ _ ns, h => Nd.pfs_pks ns h
  | .text _ _, h => by cases h
  | .input _ _ _ _ _, h => by cases h
  | .place _ _, h => by cases h
theorem Nd.pfs_pks {k : Nat} {m : Nd} : ∀ ns : List Nd, Nd.pfs k ns = some m → k ∈ Nd.pks ns
  | [], h => by cases h
  | n :: ns, h => by
    rw [Nd.pfs] at h
    rw [Nd.pks, List.mem_append]
    cases e : n.pf k with
    | some x => exact .inl (Nd.pf_pk n e)
    | none => rw [e] at h; exact .inr (Nd.pfs_pks ns h)
end
theorem nop_ev : ∀ {ns : List Nd}, Nd.NoPs ns → ∀ {k : Nat}, ∀ m ∈ Nd.evs ns, isP k m = false := fun {ns} h {k} m hm => by
  have := List.find?_eq_none.mp (Nd.evs_nop (k := k) ns h) m hm
  simpa using this
mutual
theorem Nd.ev_pk {k : Nat} {m : Nd} : ∀ n : Nd, n.Own → m ∈ n.ev → isP k m = true → k ∈ n.pk
  | .child p c ps rs ns, h, hm, e => by
    rw [Nd.ev] at hm
    rcases List.mem_cons.mp hm with rfl | hm
    · have e : lastN p = .part k := of_decide_eq_true e
      rw [Nd.pk, e]; simp
    · rw [nop_ev h m hm] at e; cases e
  | .box _ _ _ _ ns, h, hm, e => Nd.evs_pk ns h hm e
  | .text _ _, _, hm, _ => by simp [Nd.ev] at hm
  | .input _ _ _ _ _, _, hm, _ => by simp [Nd.ev] at hm
  | .place _ _, _, hm, _ => by simp [Nd.ev] at hm
theorem Nd.evs_pk {k : Nat} {m : Nd} : ∀ ns : List Nd, Nd.Owns ns → m ∈ Nd.evs ns → isP k m = true → k ∈ Nd.pks ns
  | [], _, hm, _ => by simp [Nd.evs] at hm
  | n :: ns, h, hm, e => by
    rw [Nd.evs, List.mem_append] at hm
    rw [Nd.pks, List.mem_append]
    rcases hm with hm | hm
    · exact .inl (Nd.ev_pk n h.1 hm e)
    · exact .inr (Nd.evs_pk ns h.2 hm e)
end
mutual
/-- there is but one -/
theorem Nd.ev_one {k : Nat} {m : Nd} : ∀ n : Nd, n.Own → n.pk.Nodup → m ∈ n.ev → isP k m = true → n.pf k = some m
  | .child p c ps rs ns, h, _, hm, e => by
    rw [Nd.ev] at hm
    rcases List.mem_cons.mp hm with rfl | hm
    · have e : lastN p = .part k := of_decide_eq_true e
      rw [Nd.pf, if_pos e]
    · rw [nop_ev h m hm] at e; cases e
  | .box _ _ _ _ ns, h, nd, hm, e => Nd.evs_one ns h nd hm e
  | .text _ _, _, _, hm, _ => by simp [Nd.ev] at hm
  | .input _ _ _ _ _, _, _, hm, _ => by simp [Nd.ev] at hm
  | .place _ _, _, _, hm, _ => by simp [Nd.ev] at hm
theorem Nd.evs_one {k : Nat} {m : Nd} : ∀ ns : List Nd, Nd.Owns ns → (Nd.pks ns).Nodup → m ∈ Nd.evs ns → isP k m = true → Nd.pfs k ns = some m
  | [], _, _, hm, _ => by simp [Nd.evs] at hm
  | n :: ns, h, nd, hm, e => by
    rw [Nd.evs, List.mem_append] at hm
    rw [Nd.pks, List.nodup_append] at nd
    rw [Nd.pfs]
    rcases hm with hm | hm
    · rw [Nd.ev_one n h.1 nd.1 hm e]; rfl
    · have hk := Nd.evs_pk ns h.2 hm e
      cases z : n.pf k with
      | some x => exact absurd rfl (nd.2.2 k (Nd.pf_pk n z) k hk)
      | none => rw [Nd.evs_one ns h.2 nd.2.1 hm e]; rfl
end
/-! ### names of parts -/
mutual
theorem Tp.dis1_np : ∀ (t : Tp) (c : Sc) (addr reps : List Int), ∀ d ∈ t.dis1 c addr reps, d.other.isPart = false ∧ ∀ k, d.wish = .part k ↔ d.tp = .part k
  | .when e cs os, c, addr, reps, d, h => by
    simp only [Tp.dis1] at h
    split at h
    · exact Tp.dis_np os c _ reps 0 d h
    · exact Tp.dis_np cs c _ reps 0 d h
  | .each e cs, c, addr, reps, d, h => by
    simp only [Tp.dis1, List.mem_flatMap] at h
    obtain ⟨n, hn, h⟩ := h
    exact Tp.dis_np cs _ addr _ 0 d h
  | .text _, c, addr, reps, d, h | .show _, c, addr, reps, d, h | .input _ _, c, addr, reps, d, h => by
    simp only [Tp.dis1, List.mem_singleton] at h
    subst h
    exact ⟨rfl, fun k => ⟨(fun z => by cases z), (fun z => by cases z)⟩⟩
  | .part j, c, addr, reps, d, h => by
    simp only [Tp.dis1, List.mem_singleton] at h
    subst h
    exact ⟨rfl, fun k => ⟨(fun z => by injection z with z; rw [z]), (fun z => by injection z with z; rw [z])⟩⟩
  | .box _ key _ _, c, addr, reps, d, h | .child _ key _, c, addr, reps, d, h => by
    simp only [Tp.dis1, List.mem_singleton] at h
    subst h
    refine ⟨rfl, fun k => ⟨fun z => ?_, fun z => by cases z⟩⟩
    cases key <;> cases z
theorem Tp.dis_np : ∀ (ts : List Tp) (c : Sc) (before reps : List Int) (k : Nat), ∀ d ∈ Tp.dis c before reps k ts, d.other.isPart = false ∧ ∀ k, d.wish = .part k ↔ d.tp = .part k
  | [], c, before, reps, k, d, h => nomatch h
  | t :: ts, c, before, reps, k, d, h => by
    simp only [Tp.dis, List.mem_append] at h
    rcases h with h | h
    · exact Tp.dis1_np t c _ reps d h
    · exact Tp.dis_np ts c before reps (k + 1) d h
end
theorem named_np : ∀ (ds : List Dr) (tk : List Nm), (∀ d ∈ ds, d.other.isPart = false ∧ ∀ k, d.wish = .part k ↔ d.tp = .part k) → ∀ x ∈ lawNamed tk ds, ∀ k, x.1 = .part k ↔ x.2.1 = .part k
  | [], tk, _, x, h => nomatch h
  | d :: ds, tk, h1, x, h => by
    simp only [lawNamed, List.mem_cons] at h
    rcases h with rfl | h
    · intro k
      dsimp only
      obtain ⟨a, b⟩ := h1 d List.mem_cons_self
      unfold lawName
      cases e : d.wish with
      | key t v =>
        dsimp only
        have no : ¬ d.tp = .part k := fun z => by rw [← b k, e] at z; cases z
        split
        · exact ⟨fun z => absurd z (notP a), fun z => absurd z no⟩
        · exact ⟨(fun z => by cases z), fun z => absurd z no⟩
      | «at» t i => dsimp only; rw [← b k, e]
      | part j => dsimp only; rw [← b k, e]
    · exact named_np ds _ (fun y hy => h1 y (List.mem_cons_of_mem _ hy)) x h
theorem item_np {c : Sc} {ts : List Tp} {it : Nm × Tp × Int} (h : it ∈ lawNamed [] (Tp.dis c [] [] 0 ts)) : ∀ k, it.1 = .part k ↔ it.2.1 = .part k := named_np _ _ (fun d hd => Tp.dis_np ts c [] [] 0 d hd) it h
theorem nops_of : ∀ {a : List Nd}, (∀ n ∈ a, n.NoP) → Nd.NoPs a
  | [], _ => trivial
  | n :: a, h => ⟨h n List.mem_cons_self, nops_of fun x hx => h x (List.mem_cons_of_mem _ hx)⟩
theorem owns_of : ∀ {a : List Nd}, (∀ n ∈ a, n.Own) → Nd.Owns a
  | [], _ => trivial
  | n :: a, h => ⟨h n List.mem_cons_self, owns_of fun x hx => h x (List.mem_cons_of_mem _ hx)⟩
theorem isPart_of {n : Nm} (h : ∀ k, n ≠ .part k) : n.isPart = false := by
  cases n with
  | part k => exact absurd rfl (h k)
  | _ => rfl
theorem fill_nop {X : Pc} (h : X.Ok) : ∀ (n own : Nat) (free : Bool) (o : Path) (c : Sc) (ts : List Tp) (p : Path), 0 < own → own ≤ X.g.comps.length - 1 → Tp.Oks own (X.g.comps.length - 1) free ts → Nd.NoPs (fill X n o c ts p)
  | 0, _, _, _, _, _, _, _, _, _ => trivial
  | n + 1, own, free, o, c, ts, p, h0, ho, hk => by
    refine nops_of fun nd hnd => ?_
    simp only [fill] at hnd
    obtain ⟨it, hit, rfl⟩ := List.mem_map.mp hnd
    have np := item_np hit
    obtain ⟨dd, hdd, h1, h2⟩ := lawNamed_tp _ _ it hit
    obtain ⟨a1, ⟨fr, a2⟩, a3, a4⟩ := Tp.dis_ok ts c [] [] 0 hk dd hdd
    rw [← h1] at a1 a2
    generalize it.2.1 = t at a1 a2 np
    cases t with
    | when _ _ _ => cases a1
    | each _ _ => cases a1
    | text s => trivial
    | «show» s => trivial
    | input _ _ => trivial
    | box tag key act cs => exact fill_nop h n own fr o { c with index := it.2.2 } cs (p ++ [it.1]) h0 ho a2.2.2.2
    | child d key props =>
      refine ⟨by rw [lastN_snoc]; exact isPart_of fun k z => (by have := (np k).mp z; cases this), ?_⟩
      exact fill_nop h n d true _ _ _ _ (Nat.lt_of_le_of_lt (Nat.zero_le _) a2.1) a2.2.1 (h.comp a2.2.1).oks
    | part k => exact absurd a2.1 (Nat.ne_of_gt h0)
theorem fill_own {X : Pc} (h : X.Ok) : ∀ (n own : Nat) (free : Bool) (o : Path) (c : Sc) (ts : List Tp) (p : Path), own ≤ X.g.comps.length - 1 → Tp.Oks own (X.g.comps.length - 1) free ts → Nd.Owns (fill X n o c ts p)
  | 0, _, _, _, _, _, _, _, _ => trivial
  | n + 1, own, free, o, c, ts, p, ho, hk => by
    refine owns_of fun nd hnd => ?_
    simp only [fill] at hnd
    obtain ⟨it, hit, rfl⟩ := List.mem_map.mp hnd
    obtain ⟨dd, hdd, h1, h2⟩ := lawNamed_tp _ _ it hit
    obtain ⟨a1, ⟨fr, a2⟩, a3, a4⟩ := Tp.dis_ok ts c [] [] 0 hk dd hdd
    rw [← h1] at a1 a2
    generalize it.2.1 = t at a1 a2
    cases t with
    | when _ _ _ => cases a1
    | each _ _ => cases a1
    | text s => trivial
    | «show» s => trivial
    | input _ _ => trivial
    | box tag key act cs => exact fill_own h n own fr o { c with index := it.2.2 } cs (p ++ [it.1]) ho a2.2.2.2
    | child d key props => exact fill_nop h n d true _ _ _ _ (Nat.lt_of_le_of_lt (Nat.zero_le _) a2.1) a2.2.1 (h.comp a2.2.1).oks
    | part k =>
      simp only [nodeOf]
      split
      · rename_i hin
        have hk := h.pres k hin
        have hp := h.g.parts _ (List.getElem_mem hk)
        have e3 : X.g.parts.getD k 0 = X.g.parts[k] := by rw [List.getD_eq_getElem?_getD, List.getElem?_eq_getElem hk]; rfl
        rw [e3]
        exact fill_nop h n _ true _ _ _ _ hp.1 (by omega) (h.comp (by omega)).oks
      · trivial
/-! ### each part but once -/
mutual
theorem Tp.pts_none {own last : Nat} : ∀ t : Tp, t.Ok own last false → t.pts = []
  | .text _, _ | .show _, _ | .input _ _, _ | .child _ _ _, _ => by simp [Tp.pts]
  | .part _, h => by have := h.2; cases this
  | .box _ _ _ cs, h => Tp.ptss_none cs h.2.2.2
  | .when _ cs os, h => by simp only [Tp.pts, Tp.ptss_none cs h.2.1, Tp.ptss_none os h.2.2, List.append_nil]
  | .each _ cs, h => Tp.ptss_none cs h.2
theorem Tp.ptss_none {own last : Nat} : ∀ ts : List Tp, Tp.Oks own last false ts → Tp.ptss ts = []
  | [], _ => rfl
  | t :: ts, h => by simp only [Tp.ptss, Tp.pts_none t h.1, Tp.ptss_none ts h.2, List.append_nil]
end
theorem flat_nil {α β : Type} {f : α → List β} : ∀ l : List α, (∀ x ∈ l, f x = []) → l.flatMap f = []
  | [], _ => rfl
  | x :: l, h => by rw [List.flatMap_cons, h x List.mem_cons_self, flat_nil l fun y hy => h y (List.mem_cons_of_mem _ hy)]; rfl
mutual
theorem Tp.dis1_ptsF {own last : Nat} : ∀ {free : Bool} (t : Tp) (c : Sc) (addr reps : List Int), t.Ok own last free → ((t.dis1 c addr reps).flatMap fun d => d.tp.pts).Sublist t.pts
  | _, .when e cs os, c, addr, reps, h => by
    simp only [Tp.dis1, Tp.pts]
    split
    · exact (Tp.dis_ptsF os c _ reps 0 h.2.2).trans (List.sublist_append_right _ _)
    · exact (Tp.dis_ptsF cs c _ reps 0 h.2.1).trans (List.sublist_append_left _ _)
  | _, .each e cs, c, addr, reps, h => by
    have hn := Tp.ptss_none cs h.2
    rw [flat_nil]
    · exact List.nil_sublist _
    · intro d hd
      simp only [Tp.dis1, List.mem_flatMap] at hd
      obtain ⟨n, _, hd⟩ := hd
      have := Tp.dis_pts cs _ addr _ 0 d hd
      rw [hn] at this
      exact List.sublist_nil.mp this
  | _, .text _, c, addr, reps, h | _, .show _, c, addr, reps, h | _, .input _ _, c, addr, reps, h | _, .part _, c, addr, reps, h | _, .box _ _ _ _, c, addr, reps, h | _, .child _ _ _, c, addr, reps, h => by
    simp only [Tp.dis1, List.flatMap_cons, List.flatMap_nil, List.append_nil]
    exact List.Sublist.refl _
theorem Tp.dis_ptsF {own last : Nat} : ∀ {free : Bool} (ts : List Tp) (c : Sc) (before reps : List Int) (k : Nat), Tp.Oks own last free ts → ((Tp.dis c before reps k ts).flatMap fun d => d.tp.pts).Sublist (Tp.ptss ts)
  | _, [], c, before, reps, k, h => List.Sublist.refl _
  | _, t :: ts, c, before, reps, k, h => by
    simp only [Tp.dis, Tp.ptss, List.flatMap_append]
    exact (Tp.dis1_ptsF t c _ reps h.1).append (Tp.dis_ptsF ts c before reps (k + 1) h.2)
end
theorem named_tps : ∀ (ds : List Dr) (tk : List Nm), (lawNamed tk ds).map (fun it => it.2.1) = ds.map (fun d => d.tp)
  | [], _ => rfl
  | d :: ds, tk => by simp only [lawNamed, List.map_cons, named_tps ds]
theorem pks_map {α : Type} (f : α → Nd) : ∀ l : List α, Nd.pks (l.map f) = l.flatMap fun x => (f x).pk
  | [] => rfl
  | x :: l => by simp only [List.map_cons, Nd.pks, pks_map f l, List.flatMap_cons]
theorem flat_sub {α β : Type} {f g : α → List β} : ∀ l : List α, (∀ x ∈ l, (f x).Sublist (g x)) → (l.flatMap f).Sublist (l.flatMap g)
  | [], _ => List.Sublist.refl _
  | x :: l, h => by
    rw [List.flatMap_cons, List.flatMap_cons]
    exact (h x List.mem_cons_self).append (flat_sub l fun y hy => h y (List.mem_cons_of_mem _ hy))
theorem fill_pks {X : Pc} (h : X.Ok) : ∀ (n own : Nat) (free : Bool) (o : Path) (c : Sc) (ts : List Tp) (p : Path), Tp.Oks own (X.g.comps.length - 1) free ts → (Nd.pks (fill X n o c ts p)).Sublist (Tp.ptss ts)
  | 0, _, _, _, _, _, _, _ => List.nil_sublist _
  | n + 1, own, free, o, c, ts, p, hk => by
    simp only [fill]
    rw [pks_map]
    have e : (lawNamed [] (Tp.dis c [] [] 0 ts)).flatMap (fun it => it.2.1.pts) = (Tp.dis c [] [] 0 ts).flatMap fun d => d.tp.pts := by
      have z := congrArg (fun l => l.flatMap Tp.pts) (named_tps (Tp.dis c [] [] 0 ts) [])
      simpa [List.flatMap_map] using z
    refine (flat_sub _ fun it hit => ?_).trans (by rw [e]; exact Tp.dis_ptsF ts c [] [] 0 hk)
    have np := item_np hit
    obtain ⟨dd, hdd, h1, h2⟩ := lawNamed_tp _ _ it hit
    obtain ⟨a1, ⟨fr, a2⟩, a3, a4⟩ := Tp.dis_ok ts c [] [] 0 hk dd hdd
    rw [← h1] at a1 a2
    generalize it.2.1 = t at a1 a2 np
    cases t with
    | when _ _ _ => cases a1
    | each _ _ => cases a1
    | text s => exact List.nil_sublist _
    | «show» s => exact List.nil_sublist _
    | input _ _ => exact List.nil_sublist _
    | box tag key act cs => exact fill_pks h n own fr o { c with index := it.2.2 } cs (p ++ [it.1]) a2.2.2.2
    | child d key props =>
      simp only [nodeOf, childOf, Nd.pk, lastN_snoc]
      cases e : it.1 with
      | part k => have := (np k).mp e; cases this
      | _ => exact List.nil_sublist _
    | part k =>
      have e1 : it.1 = .part k := (np k).mpr rfl
      simp only [nodeOf]
      split
      · simp only [childOf, Nd.pk, lastN_snoc, e1]
        exact List.Sublist.refl _
      · exact List.nil_sublist _
/-! ### other parts do not matter -/
theorem fill_else {X Y : Pc} (eg : Y.g = X.g) (es : Y.st = X.st) (ec : ∀ p d, Y.cells p d = X.cells p d) (h : X.Ok) : ∀ (n own : Nat) (free : Bool) (o : Path) (c : Sc) (ts : List Tp) (p : Path), 0 < own → own ≤ X.g.comps.length - 1 → Tp.Oks own (X.g.comps.length - 1) free ts → fill Y n o c ts p = fill X n o c ts p
  | 0, _, _, _, _, _, _, _, _, _ => rfl
  | n + 1, own, free, o, c, ts, p, h0, ho, hk => by
    simp only [fill]
    refine List.map_congr_left fun it hit => ?_
    obtain ⟨dd, hdd, h1, h2⟩ := lawNamed_tp _ _ it hit
    obtain ⟨a1, ⟨fr, a2⟩, a3, a4⟩ := Tp.dis_ok ts c [] [] 0 hk dd hdd
    rw [← h1] at a1 a2
    generalize it.2.1 = t at a1 a2
    cases t with
    | when _ _ _ => cases a1
    | each _ _ => cases a1
    | text s => rfl
    | «show» s => rfl
    | input _ _ => rfl
    | box tag key act cs =>
      simp only [nodeOf]
      rw [fill_else eg es ec h n own fr o { c with index := it.2.2 } cs (p ++ [it.1]) h0 ho a2.2.2.2]
    | child d key props =>
      have e1 : ∀ q d ps, Y.sc q d ps = X.sc q d ps := fun q d ps => by unfold Pc.sc; rw [ec, es]
      have e2 : ∀ d, Y.comp d = X.comp d := fun d => by unfold Pc.comp; rw [eg]
      have e3 : ∀ lk, Y.reads lk = X.reads lk := fun lk => by unfold Pc.reads; rw [es]
      simp only [nodeOf, childOf, e1, e2, e3]
      rw [fill_else eg es ec h n d true _ _ _ _ (Nat.lt_of_le_of_lt (Nat.zero_le _) a2.1) a2.2.1 (h.comp a2.2.1).oks]
    | part k => exact absurd a2.1 (Nat.ne_of_gt h0)
theorem pfs_map {α : Type} {k : Nat} {f g : α → Nd} : ∀ l : List α, (∀ x ∈ l, (f x).pf k = (g x).pf k) → Nd.pfs k (l.map f) = Nd.pfs k (l.map g)
  | [], _ => rfl
  | x :: l, h => by simp only [List.map_cons, Nd.pfs, h x List.mem_cons_self, pfs_map l fun y hy => h y (List.mem_cons_of_mem _ hy)]
theorem pfs_same {X Y : Pc} (eg : Y.g = X.g) (es : Y.st = X.st) (ec : ∀ p d, Y.cells p d = X.cells p d) (h : X.Ok) {k : Nat} (kx : k ∈ X.pres) (ky : k ∈ Y.pres) : ∀ (n own : Nat) (free : Bool) (o : Path) (c : Sc) (ts : List Tp) (p : Path), own ≤ X.g.comps.length - 1 → Tp.Oks own (X.g.comps.length - 1) free ts → Nd.pfs k (fill Y n o c ts p) = Nd.pfs k (fill X n o c ts p)
  | 0, _, _, _, _, _, _, _, _ => rfl
  | n + 1, own, free, o, c, ts, p, ho, hk => by
    simp only [fill]
    refine pfs_map _ fun it hit => ?_
    have np := item_np hit
    obtain ⟨dd, hdd, h1, h2⟩ := lawNamed_tp _ _ it hit
    obtain ⟨a1, ⟨fr, a2⟩, a3, a4⟩ := Tp.dis_ok ts c [] [] 0 hk dd hdd
    rw [← h1] at a1 a2
    have e1 : ∀ q d ps, Y.sc q d ps = X.sc q d ps := fun q d ps => by unfold Pc.sc; rw [ec, es]
    have e2 : ∀ d, Y.comp d = X.comp d := fun d => by unfold Pc.comp; rw [eg]
    have e3 : ∀ lk, Y.reads lk = X.reads lk := fun lk => by unfold Pc.reads; rw [es]
    generalize it.2.1 = t at a1 a2 np
    cases t with
    | when _ _ _ => cases a1
    | each _ _ => cases a1
    | text s => rfl
    | «show» s => rfl
    | input _ _ => rfl
    | box tag key act cs =>
      simp only [nodeOf, Nd.pf]
      exact pfs_same eg es ec h kx ky n own fr o { c with index := it.2.2 } cs (p ++ [it.1]) ho a2.2.2.2
    | child d key props =>
      simp only [nodeOf, childOf, Nd.pf, lastN_snoc]
      rw [if_neg fun z => (by have := (np k).mp z; cases this), if_neg fun z => (by have := (np k).mp z; cases this)]
    | part j =>
      have e1' : it.1 = .part j := (np j).mpr rfl
      by_cases ej : j = k
      · subst ej
        have hj := h.pres j kx
        have hp := h.g.parts _ (List.getElem_mem hj)
        have eq3 : X.g.parts.getD j 0 = X.g.parts[j] := by rw [List.getD_eq_getElem?_getD, List.getElem?_eq_getElem hj]; rfl
        simp only [nodeOf, if_pos kx, if_pos ky, childOf, e1, e2, e3, eg]
        rw [eq3, fill_else eg es ec h n _ true _ _ _ _ hp.1 (by omega) (h.comp (by omega)).oks]
      · have no : ∀ (Z : Pc), (nodeOf Z (fill Z n) (lkAll n) o { c with index := it.2.2 } (p ++ [it.1]) (.part j)).pf k = none := fun Z => by
          simp only [nodeOf]
          split
          · simp only [childOf, Nd.pf, lastN_snoc, e1']
            rw [if_neg fun z => ej (by injection z)]
          · rfl
        rw [no X, no Y]
/-- a part is small -/
theorem pfs_cnt {X : Pc} (h : X.Ok) {k : Nat} {m : Nd} : ∀ (n own : Nat) (free : Bool) (o : Path) (c : Sc) (ts : List Tp) (p : Path), own ≤ X.g.comps.length - 1 → Tp.Oks own (X.g.comps.length - 1) free ts → Nd.pfs k (fill X n o c ts p) = some m → m.cnt ≤ 1641
  | 0, _, _, _, _, _, _, _, _, e => by cases e
  | n + 1, own, free, o, c, ts, p, ho, hk, e => by
    have one : ∀ it ∈ lawNamed [] (Tp.dis c [] [] 0 ts), (nodeOf X (fill X n) (lkAll n) o { c with index := it.2.2 } (p ++ [it.1]) it.2.1).pf k = some m → m.cnt ≤ 1641 := fun it hit e => by
      have np := item_np hit
      obtain ⟨dd, hdd, h1, h2⟩ := lawNamed_tp _ _ it hit
      obtain ⟨a1, ⟨fr, a2⟩, a3, a4⟩ := Tp.dis_ok ts c [] [] 0 hk dd hdd
      rw [← h1] at a1 a2
      generalize it.2.1 = t at a1 a2 np e
      cases t with
      | when _ _ _ => cases a1
      | each _ _ => cases a1
      | text s => cases e
      | «show» s => cases e
      | input _ _ => cases e
      | box tag key act cs => exact pfs_cnt h n own fr o { c with index := it.2.2 } cs (p ++ [it.1]) ho a2.2.2.2 e
      | child d key props =>
        simp only [nodeOf, childOf, Nd.pf, lastN_snoc] at e
        rw [if_neg fun z => (by have := (np k).mp z; cases this)] at e
        cases e
      | part j =>
        simp only [nodeOf] at e
        split at e
        · rename_i hin
          have hj := h.pres j hin
          have hp := h.g.parts _ (List.getElem_mem hj)
          have eq3 : X.g.parts.getD j 0 = X.g.parts[j] := by rw [List.getD_eq_getElem?_getD, List.getElem?_eq_getElem hj]; rfl
          simp only [childOf, Nd.pf, lastN_snoc] at e
          split at e
          · rw [← Option.some.inj e]
            simp only [Nd.cnt]
            rw [eq3]
            generalize hd : X.g.parts[j] = d at hp
            have cd := h.comp (d := d) (by omega)
            have i1 := fill_cnt h n d true (p ++ [it.1]) (X.sc (p ++ [it.1]) d []) (X.comp d).cs (p ++ [it.1]) (by omega) cd.oks
            have i2 := Tp.insts_le _ cd.echs
            have i3 := cd.cnts
            have i4 : Tp.insts (X.comp d).cs ≤ 40 := by omega
            have i5 := Nat.mul_le_mul_right (below (X.g.comps.length - 1) d) i4
            have hm := h.g.many
            have hb : below (X.g.comps.length - 1) d ≤ 41 := by
              unfold below
              split
              · have : X.g.comps.length - 1 - d - 1 = 0 := by omega
                rw [this]; decide
              · decide
            omega
          · cases e
        · cases e
    simp only [fill] at e
    revert e
    generalize hl : lawNamed [] (Tp.dis c [] [] 0 ts) = l at one
    clear hl
    induction l with
    | nil => intro e; cases e
    | cons it l ih =>
      intro e
      rw [List.map_cons, Nd.pfs] at e
      cases z : (nodeOf X (fill X n) (lkAll n) o { c with index := it.2.2 } (p ++ [it.1]) it.2.1).pf k with
      | some x => rw [z] at e; exact one it List.mem_cons_self (by rw [z]; exact e)
      | none => rw [z] at e; exact ih (fun y hy => one y (List.mem_cons_of_mem _ hy)) e
mutual
theorem Nd.pf_fit {k : Nat} {m : Nd} : ∀ n : Nd, n.Fit → n.pf k = some m → m.Fit ∧ m.ht ≤ n.ht ∧ ∃ p c ps rs ns, m = .child p c ps rs ns ∧ lastN p = .part k
  | .child p c ps rs ns, f, h => by
    rw [Nd.pf] at h
    by_cases e : lastN p = .part k
    · rw [if_pos e] at h
      rw [← Option.some.inj h]
      exact ⟨f, Nat.le_refl _, _, _, _, _, _, rfl, e⟩
    · rw [if_neg e] at h; cases h
  | .box _ _ _ _ ns, f, h => by
    obtain ⟨a, b, c⟩ := Nd.pfs_fit ns f.2.2.2.2.2 h
    exact ⟨a, by simp only [Nd.ht]; omega, c⟩
  | .text _ _, _, h => by cases h
  | .input _ _ _ _ _, _, h => by cases h
  | .place _ _, _, h => by cases h
theorem Nd.pfs_fit {k : Nat} {m : Nd} : ∀ ns : List Nd, Nd.Fits ns → Nd.pfs k ns = some m → m.Fit ∧ m.ht ≤ Nd.hts ns ∧ ∃ p c ps rs is, m = .child p c ps rs is ∧ lastN p = .part k
  | [], _, h => by cases h
  | n :: ns, f, h => by
    rw [Nd.pfs] at h
    simp only [Nd.hts]
    cases e : n.pf k with
    | some x =>
      rw [e] at h
      rw [show x = m from Option.some.inj h] at e
      obtain ⟨a, b, c⟩ := Nd.pf_fit n f.1 e
      exact ⟨a, by omega, c⟩
    | none =>
      rw [e] at h
      obtain ⟨a, b, c⟩ := Nd.pfs_fit ns f.2 h
      exact ⟨a, by omega, c⟩
end
/-- the text of a part among nodes -/
def ptxt (k : Nat) (ns : List Nd) : Str := match Nd.pfs k ns with
  | some m => m.wr
  | none => Str.empty
/-- a context at first -/
def fstP (g : Pq) (pres : List Nat) : Pc := ⟨g, intsOf g.store, [], pres⟩
def own12 (X : Pc) : List Nd := fill X 12 [] (X.sc [] 0 []) (X.comp 0).cs []
def rds12 (X : Pc) : List Int := X.reads (lkAll 12 (X.sc [] 0 []) (X.comp 0).cs)
theorem comp12 (X : Pc) : compT X 12 [] 0 [] = .tup [intsT (rds12 X), .tup (Nd.toTs (own12 X))] := rfl
theorem child12 (X : Pc) : child X 12 [] 0 [] = .child [] 0 [] (rds12 X) (own12 X) := rfl
theorem fst_good {g : Pq} (h : g.Ok) {pres : List Nat} (hp : ∀ k ∈ pres, k < g.parts.length) (hl : pres.length ≤ 2) : (fstP g pres).Good :=
  Pc.good0 h (fun n hn => by have := h.store n hn; omega) h.sl hp hl
section
variable {X : Pc} (h : X.Good)
include h
theorem own_fits : Nd.Fits (own12 X) ∧ Nd.hts (own12 X) ≤ 12 ∧ Nd.cnts (own12 X) ≤ 65640 ∧ Sm (rds12 X) ∧ (rds12 X).length ≤ 2 ∧ Nd.Owns (own12 X) ∧ (Nd.pks (own12 X)).Nodup := by
  have c := h.comp (Nat.zero_le _)
  have hpt : ∀ k ∈ Tp.ptss (X.comp 0).cs, k < 1000 := fun k hk => by
    have := c.pts.mem_iff.mp hk
    rw [if_pos rfl] at this
    have := List.mem_range.mp this
    have := h.g.pl
    omega
  refine ⟨fill_fit h.toOk 12 0 true [] _ _ [] (Nat.zero_le _) c.oks c.deps (by have := c.cnts; omega) hpt (h.toOk.sc (Nat.zero_le _) [] Sm.nil'), (page_facts h).1, page_few h, reads_sm X _ h.sl, Nat.le_trans (reads_len X _) h.sl, fill_own h.toOk 12 0 true _ _ _ _ (Nat.zero_le _) c.oks, (fill_pks h.toOk 12 0 true _ _ _ _ c.oks).nodup c.ndp⟩
theorem ptxt_len (k : Nat) : (ptxt k (own12 X)).length ≤ 200000 := by
  unfold ptxt
  cases e : Nd.pfs k (own12 X) with
  | none => exact Nat.zero_le _
  | some m =>
    have c := h.comp (Nat.zero_le _)
    have h1 := pfs_cnt h.toOk 12 0 true _ _ _ _ (Nat.zero_le _) c.oks e
    have h2 := Nd.wr_len m (Nd.pfs_fit _ (own_fits h).1 e).1
    show m.wr.length ≤ _
    omega
end
theorem ptxt_same {g : Pq} (hg : g.Ok) {a b : List Nat} {k : Nat} (ga : (fstP g a).Good) (ka : k ∈ a) (kb : k ∈ b) : ptxt k (own12 (fstP g b)) = ptxt k (own12 (fstP g a)) := by
  unfold ptxt own12
  have c := ga.comp (Nat.zero_le _)
  have e1 : (fstP g b).sc [] 0 [] = (fstP g a).sc [] 0 [] := rfl
  have e2 : (fstP g b).comp 0 = (fstP g a).comp 0 := rfl
  rw [e1, e2, pfs_same (X := fstP g a) (Y := fstP g b) rfl rfl (fun _ _ => rfl) ga.toOk ka kb 12 0 true _ _ _ _ (Nat.zero_le _) c.oks]
end Pw
namespace Pw
open PySem PySem.Spec PyProof.Rows L2
structure LJ (H : Hp) (b d pl : Addr) (z : Bt) (ab pp dd uu : Addr) (Z X : Pc) (qs : List Path) (ds : List Deed) (ps dvs uvs : List V) : Prop where
  hbx : By H b d pl z
  hab : About H ab X
  hps : H pp = some (.lst ps)
  hpq : Paired (IsT H) (qs.map pathT) ps
  hdv : H dd = some (.lst dvs)
  hpd : Paired (IsT H) (ds.map Deed.toT) dvs
  huv : H uu = some (.lst uvs)
  hpu : Paired (IsT H) ((Z.settle.walk ds).map worldT) uvs
  n1 : b ≠ pp ∧ b ≠ dd ∧ b ≠ uu ∧ b ≠ ab
  n2 : d ≠ pp ∧ d ≠ dd ∧ d ≠ uu ∧ pl ≠ pp ∧ pl ≠ dd ∧ pl ≠ uu
  n3 : pp ≠ dd ∧ pp ≠ uu ∧ dd ≠ uu
  n4 : ab ≠ pp ∧ ab ≠ dd ∧ ab ≠ uu
section
variable {H H' : Hp} {b d pl : Addr} {z : Bt} {ab pp dd uu : Addr} {Z X Y : Pc} {qs : List Path} {ds : List Deed} {ps dvs uvs : List V} {S : List Addr}
theorem LJ.oth (h : LJ H b d pl z ab pp dd uu Z X qs ds ps dvs uvs) (o : Oth S H H') (bx : By H' b d pl z) (h1 : ab ∉ S) (h2 : pp ∉ S) (h3 : dd ∉ S) (h4 : uu ∉ S) : LJ H' b d pl z ab pp dd uu Z X qs ds ps dvs uvs :=
  ⟨bx, h.hab.oth o h1, o.keep _ _ h2 h.hps, paired_oth h.hpq o, o.keep _ _ h3 h.hdv, paired_oth h.hpd o, o.keep _ _ h4 h.huv, paired_oth h.hpu o, h.n1, h.n2, h.n3, h.n4⟩
theorem LJ.nil (h : LJ H b d pl z ab pp dd uu Z X qs ds ps dvs uvs) (o : Oth [] H H') : LJ H' b d pl z ab pp dd uu Z X qs ds ps dvs uvs :=
  h.oth o (h.hbx.oth o (by simp) (by simp) (by simp)) (by simp) (by simp) (by simp) (by simp)
theorem LJ.draw (h : LJ H b d pl z ab pp dd uu Z X qs ds ps dvs uvs) (o : Oth [b] H H') (bx : By H' b d pl z) : LJ H' b d pl z ab pp dd uu Z X qs ds ps dvs uvs := by
  obtain ⟨a1, a2, a3, a4⟩ := h.n1
  exact h.oth o bx (by simp [a4.symm]) (by simp [a1.symm]) (by simp [a2.symm]) (by simp [a3.symm])
/-- one path more -/
theorem LJ.path (h : LJ H b d pl z ab pp dd uu Z X qs ds ps dvs uvs) {q : Path} {v : V} (t : IsT H (pathT q) v) : LJ (upd H pp (.lst (ps ++ [v]))) b d pl z ab pp dd uu Z X (qs ++ [q]) ds (ps ++ [v]) dvs uvs := by
  have o : Oth [pp] H (upd H pp (.lst (ps ++ [v]))) := Oth.put (by simp) h.hps
  obtain ⟨a1, a2, a3, a4⟩ := h.n1
  obtain ⟨b1, b2, b3, b4, b5, b6⟩ := h.n2
  obtain ⟨c1, c2, c3⟩ := h.n3
  obtain ⟨e1, e2, e3⟩ := h.n4
  refine ⟨h.hbx.oth o (by simp [a1]) (by simp [b1]) (by simp [b4]), h.hab.oth o (by simp [e1]), upd_same, ?_, o.keep _ _ (by simp [c1.symm]) h.hdv, paired_oth h.hpd o, o.keep _ _ (by simp [c2.symm]) h.huv, paired_oth h.hpu o, h.n1, h.n2, h.n3, h.n4⟩
  rw [List.map_append]
  exact paired_app (paired_oth h.hpq o) (.cons (t.oth o) .nil)
/-- one deed and its world more -/
theorem LJ.deed (h : LJ H b d pl z ab pp dd uu Z X qs ds ps dvs uvs) {e : Deed} {v w : V} (t : IsT H e.toT v) {H2 : Hp} (o2 : Oth [] (upd H dd (.lst (dvs ++ [v]))) H2) (tw : IsT H2 (worldT ((Z.settle.runs ds).done e)) w) :
    LJ (upd H2 uu (.lst (uvs ++ [w]))) b d pl z ab pp dd uu Z X qs (ds ++ [e]) ps (dvs ++ [v]) (uvs ++ [w]) := by
  have o : Oth [dd] H (upd H dd (.lst (dvs ++ [v]))) := Oth.put (by simp) h.hdv
  obtain ⟨a1, a2, a3, a4⟩ := h.n1
  obtain ⟨b1, b2, b3, b4, b5, b6⟩ := h.n2
  obtain ⟨c1, c2, c3⟩ := h.n3
  obtain ⟨e1, e2, e3⟩ := h.n4
  have huu := o2.keep uu _ (by simp) (o.keep uu _ (by simp [c3.symm]) h.huv)
  have o3 : Oth [uu] H2 (upd H2 uu (.lst (uvs ++ [w]))) := Oth.put (by simp) huu
  have oa : Oth [dd, uu] H (upd H2 uu (.lst (uvs ++ [w]))) := (o.mono (by simp)).trans ((o2.mono (by simp)).trans (o3.mono (by simp)))
  refine ⟨h.hbx.oth oa (by simp [a2, a3]) (by simp [b2, b3]) (by simp [b5, b6]), h.hab.oth oa (by simp [e2, e3]), oa.keep _ _ (by simp [c1, c2]) h.hps, paired_oth h.hpq oa, o3.keep _ _ (by simp [c3]) (o2.keep _ _ (by simp) upd_same), ?_, upd_same, ?_, h.n1, h.n2, h.n3, h.n4⟩
  · rw [List.map_append]
    exact paired_app (paired_oth h.hpd oa) (.cons (((t.oth o).oth o2).oth o3) .nil)
  · rw [walk_snoc, List.map_append]
    exact paired_app (paired_oth h.hpu oa) (.cons (tw.oth o3) .nil)
/-- the next world -/
theorem LJ.next (h : LJ H b d pl z ab pp dd uu Z X qs ds ps dvs uvs) (o : Oth [] H H') {r : Addr} (hr : H r = none) (a : About H' r Y) : LJ H' b d pl z r pp dd uu Z Y qs ds ps dvs uvs := by
  have j := h.nil o
  obtain ⟨xs, e⟩ := h.hbx.is
  exact ⟨j.hbx, a, j.hps, j.hpq, j.hdv, j.hpd, j.huv, j.hpu, ⟨j.n1.1, j.n1.2.1, j.n1.2.2.1, ne_of_none e hr⟩, j.n2, j.n3, ⟨(ne_of_none h.hps hr).symm, (ne_of_none h.hdv hr).symm, (ne_of_none h.huv hr).symm⟩⟩
end
theorem worlds_dep {l : List Pc} (h : ∀ X ∈ l, X.Good) (n : l.length ≤ 1000) : Dep 9 (.tup (l.map worldT)) :=
  .tup _ _ (by rw [List.length_map]; omega) fun t ht => by
    obtain ⟨X, hX, rfl⟩ := List.mem_map.mp ht
    exact world_dep (h X hX)
end Pw
namespace Pw
open PySem PySem.Spec PyProof.Rows L2
theorem inV_nat {k : Nat} {l : List Nat} (h : k ∈ l) : inV (natV k) (l.map natV) = true := by
  rw [show natV k = V.int (k : Int) from rfl, inVn, decide_eq_true h]
theorem setAt_last {Y : Pc} {p q : Path} {c : List Int} {i : Nat} {v : Int} (h : q ≠ p) : lastOf (Y.setAt p c i v).cs q = lastOf Y.cs q := by
  unfold Pc.setAt
  split
  · rw [put_last, if_neg h]
  · rfl
theorem steps_keep {X : Pc} {n : Nat} {x : Who} {q : Path} (hq : ¬ q <+: x.1) (rec : ∀ z p a, ¬ q <+: p → lastOf (actF X n z p a).1.cs q = lastOf z.1.cs q) : ∀ (steps : List St1) (z : Sd), lastOf (steps.foldl (stepOf X (actF X n) x) z).1.cs q = lastOf z.1.cs q
  | [], z => rfl
  | s :: ss, z => by
    rw [List.foldl_cons, steps_keep hq rec ss]
    cases s with
    | set i e =>
      unfold stepOf
      exact setAt_last (fun z => hq (by rw [z]; exact List.prefix_refl _))
    | put i e => rfl
    | up a =>
      unfold stepOf
      cases e : X.above x.1 with
      | none => rfl
      | some r =>
        obtain ⟨_, k, _, rfl⟩ := Pc.above_some e
        exact rec z _ a fun h => hq (h.trans (List.take_prefix _ _))
theorem act_keep {X : Pc} {q : Path} : ∀ (n : Nat) (z : Sd) (p : Path) (a : Nat), ¬ q <+: p → lastOf (actF X n z p a).1.cs q = lastOf z.1.cs q
  | 0, z, p, a, _ => rfl
  | n + 1, z, p, a, h => by
    unfold actF
    cases e : X.who p with
    | none => rfl
    | some x =>
      obtain ⟨_, rfl⟩ := Pc.who_some e
      dsimp only
      cases (X.comp x.2.1).acts[a]? with
      | none => rfl
      | some steps => exact steps_keep h (fun z p a hp => act_keep n z p a hp) steps _
def Keeps (q : Path) : Deed → Prop
  | .act p _ => q <+: p
  | .enter p _ _ => q = p
  | .part _ => False
theorem done_cells {X : Pc} (h : X.Set) {d : Deed} (hd : DeedOk X d) {it ot : Path × List Int} (hi : it ∈ X.cs) (ho : ot ∈ (X.done d).cs) (e : it.1 = ot.1) (ne : it.2 ≠ ot.2) : Keeps it.1 d := by
  have l1 : lastOf X.cs it.1 = some it.2 := lastOf_mem (h.sts.nd h.good) hi
  have key : ∀ Y : Pc, ot ∈ Y.settle.cs → lastOf Y.cs it.1 = lastOf X.cs it.1 → False := fun Y hY hl => by
    obtain ⟨x, hx, rfl⟩ := List.mem_map.mp (show ot ∈ Y.settled from hY)
    refine ne ?_
    show it.2 = Y.cells x.1 x.2.1
    have e' : it.1 = x.1 := e
    unfold Pc.cells
    rw [lastOf_fold, ← e', hl, l1]
    rfl
  cases d with
  | act p a =>
    refine Classical.byContradiction fun hn => key _ ho ?_
    exact act_keep 9 (X, []) p a hn
  | enter p i v =>
    refine Classical.byContradiction fun hn => key _ ho ?_
    unfold Pc.enter
    cases ew : X.who p with
    | none => rfl
    | some x =>
      obtain ⟨_, rfl⟩ := Pc.who_some ew
      exact setAt_last hn
  | part k => exact key _ ho rfl
theorem done_store {X : Pc} {d : Deed} (h : ∀ p a, d ≠ .act p a) : (X.done d).st = X.st := by
  cases d with
  | act p a => exact absurd rfl (h p a)
  | enter p i v =>
    show (X.enter p i v).st = X.st
    unfold Pc.enter
    cases X.who p with
    | none => rfl
    | some x => unfold Pc.setAt; dsimp only; split <;> rfl
  | part k => rfl
theorem done_pres {X : Pc} (h : X.Set) {d : Deed} (hd : DeedOk X d) : ∀ k ∈ X.pres, k ∈ (X.done d).pres := by
  cases d with
  | act p a => intro k hk; show k ∈ (X.acted p a).1.pres; rw [(acted_ok h p a).st.pres]; exact hk
  | enter p i v => intro k hk; show k ∈ (X.enter p i v).pres; rw [(enter_sts (p := p) (i := i) h hd.2).pres]; exact hk
  | part j =>
    intro k hk
    exact ((come_good h.good hd).2.2 k).mpr (.inl hk)
theorem sl_init {K : PySem.W.Frag} {H : Hp} {a : Addr} {xs : List V} {Q : VK} (ha : H a = some (.lst xs)) (q : ∀ (c : Addr) (H' : Hp), Oth [] H H' → H' c = some (.lst (xs.take (xs.length - 1))) → Q (.ref c) H') : rSlL K (.ref a) none (some (-1)) H Q := by
  have e : HT.sIx xs.length xs.length (some (-1)) = xs.length - 1 := by
    show (if (-1 : Int) < 0 then ((-1 : Int) + (xs.length : Int)).toNat else min (-1 : Int).toNat xs.length) = _
    rw [if_pos (by decide)]
    omega
  refine ⟨a, xs, rfl, SqL.of ha, fun p hp => q p _ (Oth.new hp) ?_⟩
  rw [upd_same]
  unfold cutV
  rw [HT.sIx_none, e, List.drop_zero, Nat.sub_zero]
/-- what the law knows between two turns -/
structure KJ (H : Hp) (b d pl : Addr) (z : Bt) (ab dd : Addr) (X : Pc) (ds : List Deed) (dvs : List V) : Prop where
  hbx : By H b d pl z
  hab : About H ab X
  hdv : H dd = some (.lst dvs)
  hpd : Paired (IsT H) (ds.map Deed.toT) dvs
  n1 : b ≠ dd ∧ b ≠ ab ∧ d ≠ dd ∧ pl ≠ dd ∧ ab ≠ dd
section
variable {H H' : Hp} {b d pl : Addr} {z : Bt} {ab dd : Addr} {X Y : Pc} {ds : List Deed} {dvs : List V} {S : List Addr}
theorem KJ.oth (h : KJ H b d pl z ab dd X ds dvs) (o : Oth S H H') (bx : By H' b d pl z) (h1 : ab ∉ S) (h2 : dd ∉ S) : KJ H' b d pl z ab dd X ds dvs :=
  ⟨bx, h.hab.oth o h1, o.keep _ _ h2 h.hdv, paired_oth h.hpd o, h.n1⟩
theorem KJ.nil (h : KJ H b d pl z ab dd X ds dvs) (o : Oth [] H H') : KJ H' b d pl z ab dd X ds dvs := h.oth o (h.hbx.oth o (by simp) (by simp) (by simp)) (by simp) (by simp)
theorem KJ.draw (h : KJ H b d pl z ab dd X ds dvs) (o : Oth [b] H H') (bx : By H' b d pl z) : KJ H' b d pl z ab dd X ds dvs := by
  obtain ⟨a1, a2, a3, a4, a5⟩ := h.n1
  exact h.oth o bx (by simp [a2.symm]) (by simp [a1.symm])
theorem KJ.deed (h : KJ H b d pl z ab dd X ds dvs) {e : Deed} {v : V} (t : IsT H e.toT v) : KJ (upd H dd (.lst (dvs ++ [v]))) b d pl z ab dd X (ds ++ [e]) (dvs ++ [v]) := by
  have o : Oth [dd] H (upd H dd (.lst (dvs ++ [v]))) := Oth.put (by simp) h.hdv
  obtain ⟨a1, a2, a3, a4, a5⟩ := h.n1
  refine ⟨h.hbx.oth o (by simp [a1]) (by simp [a3]) (by simp [a4]), h.hab.oth o (by simp [a5]), upd_same, ?_, h.n1⟩
  rw [List.map_append]
  exact paired_app (paired_oth h.hpd o) (.cons (t.oth o) .nil)
theorem KJ.next (h : KJ H b d pl z ab dd X ds dvs) (o : Oth [] H H') {r : Addr} (hr : H r = none) (a : About H' r Y) : KJ H' b d pl z r dd Y ds dvs := by
  have j := h.nil o
  obtain ⟨xs, e⟩ := h.hbx.is
  obtain ⟨a1, a2, a3, a4, a5⟩ := h.n1
  exact ⟨j.hbx, a, j.hdv, j.hpd, a1, ne_of_none e hr, a3, a4, (ne_of_none h.hdv hr).symm⟩
end
theorem whos_ne (X : Pc) : 0 < X.whos.length := by rw [whos_eq]; exact Nat.succ_pos _
theorem Pc.Set.cs_len {X : Pc} (h : X.Set) : 0 < X.cs.length := by
  have e : X.cs = X.settled := (congrArg Pc.cs h.eq).symm
  rw [e]
  unfold Pc.settled
  rw [List.length_map]
  exact whos_ne X
end Pw
namespace Pw
open PySem PySem.Spec PyProof.Rows L2
theorem ne_ps : ¬ ("program" : Str) = "sent" := by decide +kernel
theorem ne_pr : ¬ ("program" : Str) = "ready" := by decide +kernel
theorem ne_sp : ¬ ("sent" : Str) = "program" := by decide +kernel
theorem ne_sr : ¬ ("sent" : Str) = "ready" := by decide +kernel
theorem ne_rp : ¬ ("ready" : Str) = "program" := by decide +kernel
theorem ne_rs : ¬ ("ready" : Str) = "sent" := by decide +kernel
theorem ne_meth : (¬ ("was_rendered" : Str) = "program" ∧ ¬ ("was_rendered" : Str) = "sent" ∧ ¬ ("was_rendered" : Str) = "ready") ∧ (¬ ("send" : Str) = "program" ∧ ¬ ("send" : Str) = "sent" ∧ ¬ ("send" : Str) = "ready") ∧ (¬ ("render" : Str) = "program" ∧ ¬ ("render" : Str) = "sent" ∧ ¬ ("render" : Str) = "ready") ∧ (¬ ("resolve" : Str) = "program" ∧ ¬ ("resolve" : Str) = "sent" ∧ ¬ ("resolve" : Str) = "ready") := by decide +kernel
def srvF (vp : V) (sent : Str) (vr : V) : List (Str × V) := [("program", vp), ("sent", .str sent), ("ready", vr)]
theorem no_was {vp vr : V} {sent : Str} : List.lookup ("was_rendered" : Str) (srvF vp sent vr) = none := by unfold srvF; rw [lkp_tl ne_meth.1.1, lkp_tl ne_meth.1.2.1, lkp_tl ne_meth.1.2.2]; rfl
theorem no_send {vp vr : V} {sent : Str} : List.lookup ("send" : Str) (srvF vp sent vr) = none := by unfold srvF; rw [lkp_tl ne_meth.2.1.1, lkp_tl ne_meth.2.1.2.1, lkp_tl ne_meth.2.1.2.2]; rfl
theorem no_render {vp vr : V} {sent : Str} : List.lookup ("render" : Str) (srvF vp sent vr) = none := by unfold srvF; rw [lkp_tl ne_meth.2.2.1.1, lkp_tl ne_meth.2.2.1.2.1, lkp_tl ne_meth.2.2.1.2.2]; rfl
theorem no_resolve {vp vr : V} {sent : Str} : List.lookup ("resolve" : Str) (srvF vp sent vr) = none := by unfold srvF; rw [lkp_tl ne_meth.2.2.2.1, lkp_tl ne_meth.2.2.2.2.1, lkp_tl ne_meth.2.2.2.2.2]; rfl
theorem f_prog {vp vr : V} {sent : Str} : List.lookup ("program" : Str) (srvF vp sent vr) = some vp := lkp_hd
theorem f_sent {vp vr : V} {sent : Str} : List.lookup ("sent" : Str) (srvF vp sent vr) = some (.str sent) := by unfold srvF; rw [lkp_tl ne_sp, lkp_hd]
theorem f_ready {vp vr : V} {sent : Str} : List.lookup ("ready" : Str) (srvF vp sent vr) = some vr := by unfold srvF; rw [lkp_tl ne_rp, lkp_tl ne_rs, lkp_hd]
theorem put_sent {vp vr : V} {sent s2 : Str} : putF "sent" (.str s2) (srvF vp sent vr) = srvF vp s2 vr := by unfold srvF; rw [putF_tl ne_ps, putF_hd]
theorem put_ready {vp vr v2 : V} {sent : Str} : putF "ready" v2 (srvF vp sent vr) = srvF vp sent v2 := by unfold srvF; rw [putF_tl ne_pr, putF_tl ne_sr, putF_hd]
structure SrvAt (C : Addr) (H : Hp) (s : Addr) (g : Pq) (sent : Str) (ready : List Nat) : Prop where
  ob : ∃ dx vp vr, H s = some (.ins C dx (srvF vp sent vr)) ∧ IsT H g.toT vp ∧ IsT H (natsT ready) vr
theorem SrvAt.oth {C : Addr} {H H' : Hp} {S : List Addr} {s : Addr} {g : Pq} {sent : Str} {ready : List Nat} (h : SrvAt C H s g sent ready) (o : Oth S H H') (n : s ∉ S) : SrvAt C H' s g sent ready := by
  obtain ⟨dx, vp, vr, e, a, b⟩ := h.ob
  exact ⟨dx, vp, vr, o.keep _ _ n e, a.oth o, b.oth o⟩
theorem SrvAt.nel {C : Addr} {H : Hp} {s a : Addr} {g : Pq} {sent : Str} {ready : List Nat} {xs : List V} (h : SrvAt C H s g sent ready) (e : H a = some (.lst xs)) : a ≠ s := by
  obtain ⟨dx, vp, vr, e2, _⟩ := h.ob
  exact ne_of e e2 (fun z => nomatch z)
theorem SrvAt.ne {C : Addr} {H : Hp} {s a : Addr} {g : Pq} {sent : Str} {ready : List Nat} (h : SrvAt C H s g sent ready) (e : H a = none) : s ≠ a := by
  obtain ⟨dx, vp, vr, e2, _⟩ := h.ob
  exact ne_of_none e2 e
def pageT (g : Pq) (ready : List Nat) : Str := wPage (rds12 (fstP g ready)) (own12 (fstP g ready))
def rendT (g : Pq) (sent : Str) (ready : List Nat) : Str := if sent = Str.empty then pageT g ready else Str.empty
def addN (ready : List Nat) (k : Nat) : List Nat := (List.range 4).filter fun j => decide (j ∈ ready ∨ j = k)
def resT (g : Pq) (sent : Str) (ready : List Nat) (k : Nat) : Str := if k ∈ ready ∨ sent = Str.empty then Str.empty else ptxt k (own12 (fstP g [k]))
structure RdyOk (g : Pq) (ready : List Nat) : Prop where
  asc : ready.Pairwise (· < ·)
  few : ∀ k ∈ ready, k < g.parts.length
theorem nat_asc_eq : ∀ {a b : List Nat}, a.Pairwise (· < ·) → b.Pairwise (· < ·) → (∀ x, x ∈ a ↔ x ∈ b) → a = b := fun {a b} ha hb h => by
  have := asc_eq (nat_asc ha) (nat_asc hb) fun x => by
    constructor
    · intro hx; obtain ⟨n, hn, rfl⟩ := List.mem_map.mp hx; exact List.mem_map.mpr ⟨n, (h n).mp hn, rfl⟩
    · intro hx; obtain ⟨n, hn, rfl⟩ := List.mem_map.mp hx; exact List.mem_map.mpr ⟨n, (h n).mpr hn, rfl⟩
  exact (List.map_inj_right fun x y z => by injection z).mp this
theorem asc_few {l : List Nat} (asc : l.Pairwise (· < ·)) {n : Nat} (h : ∀ k ∈ l, k < n) : l.length ≤ n := by
  have h1 := nodup_le (l.map Int.ofNat) ((List.range n).map Int.ofNat) ((nat_asc asc).imp fun z => by omega) fun x hx => by
    obtain ⟨k, hk, rfl⟩ := List.mem_map.mp hx
    exact List.mem_map.mpr ⟨k, List.mem_range.mpr (h k hk), rfl⟩
  simpa using h1
theorem range_pw (n : Nat) : (List.range n).Pairwise (· < ·) := List.pairwise_lt_range
theorem RdyOk.len {g : Pq} {r : List Nat} (h : RdyOk g r) (hg : g.Ok) : r.length ≤ 2 := by have := asc_few h.asc h.few; have := hg.pl; omega
theorem RdyOk.add {g : Pq} {r : List Nat} (h : RdyOk g r) (hg : g.Ok) {k : Nat} (hk : k < g.parts.length) : RdyOk g (addN r k) ∧ ∀ j, j ∈ addN r k ↔ j ∈ r ∨ j = k := by
  have mem : ∀ j, j ∈ addN r k ↔ j ∈ r ∨ j = k := fun j => by
    unfold addN
    rw [List.mem_filter, decide_eq_true_iff, List.mem_range]
    constructor
    · exact fun z => z.2
    · intro z
      refine ⟨?_, z⟩
      have := hg.pl
      rcases z with z | z
      · have := h.few j z; omega
      · omega
  refine ⟨⟨List.Pairwise.filter _ (range_pw 4), fun j hj => ?_⟩, mem⟩
  rcases (mem j).mp hj with z | z
  · exact h.few j z
  · rw [z]; exact hk
theorem addN_in {g : Pq} {r : List Nat} (h : RdyOk g r) (hg : g.Ok) {k : Nat} (hk : k ∈ r) : addN r k = r := by
  obtain ⟨a, b⟩ := h.add hg (h.few k hk)
  exact nat_asc_eq a.asc h.asc fun x => by rw [b x]; exact ⟨fun z => z.elim id fun e => by rw [e]; exact hk, .inl⟩
theorem RdyOk.good {g : Pq} {r : List Nat} (h : RdyOk g r) (hg : g.Ok) : (fstP g r).Good := fst_good hg h.few (h.len hg)
theorem rdy_nil {g : Pq} : RdyOk g [] := ⟨.nil, fun k h => nomatch h⟩
theorem rdy_one {g : Pq} {k : Nat} (hk : k < g.parts.length) : RdyOk g [k] := ⟨List.pairwise_singleton _ _, fun j hj => by rw [List.mem_singleton.mp hj]; exact hk⟩
theorem add_perm {g : Pq} {r : List Nat} (h : RdyOk g r) (hg : g.Ok) {k : Nat} (hk : k < g.parts.length) (hn : k ∉ r) {ns : List Int} (p : ns.Perm ((r ++ [k]).map Int.ofNat)) (le : ns.Pairwise (· ≤ ·)) : ns = (addN r k).map Int.ofNat := by
  obtain ⟨a, b⟩ := h.add hg hk
  refine perm_asc (p.trans ?_) le (nat_asc a.asc)
  refine List.Perm.map _ ((List.perm_ext_iff_of_nodup ?_ (a.asc.imp fun z => Nat.ne_of_lt z)).mpr fun x => by rw [b x, List.mem_append, List.mem_singleton])
  exact List.nodup_append.mpr ⟨h.asc.imp fun z => Nat.ne_of_lt z, by simp, fun x hx y hy e => hn (by rw [← List.mem_singleton.mp hy, ← e]; exact hx)⟩
theorem pageT_len {g : Pq} {r : List Nat} (hg : g.Ok) (h : RdyOk g r) : (pageT g r).length ≤ 7900000 := by
  obtain ⟨f1, f2, f3, f4, f5, _⟩ := own_fits (h.good hg)
  have l1 := nums_len f4
  have l2 := Nd.wrs_len _ f1
  obtain ⟨_, _, _, _, s5, _, _, _, _, _, _, _, _, _, _, s16⟩ := sign1
  unfold pageT wPage
  rw [lenA, lenA, lenA, s5, s16]
  omega
theorem pageT_pos {g : Pq} {r : List Nat} : pageT g r ≠ Str.empty := fun e => by
  have : (pageT g r).length = 0 := by rw [e]; rfl
  obtain ⟨_, _, _, _, s5, _, _, _, _, _, _, _, _, _, _, s16⟩ := sign1
  unfold pageT wPage at this
  rw [lenA, lenA, lenA, s5, s16] at this
  omega
/-! ### promises of a server -/
def spSInit (C : Addr) : Sp := fun vs H Q _ => ∃ (s dx : Addr) (g : Pq) (vp : V), vs = [.ref s, vp] ∧ H s = some (.ins C dx []) ∧ IsT H g.toT vp ∧ ∀ H', SrvAt C H' s g Str.empty [] → Oth [s] H H' → Q .non H'
def spWas (C : Addr) : Sp := fun vs H Q _ => ∃ (s : Addr) (g : Pq) (sent : Str) (ready : List Nat), vs = [.ref s] ∧ SrvAt C H s g sent ready ∧ Q (.bl (decide (sent ≠ Str.empty))) H
def spSend (C : Addr) : Sp := fun vs H Q _ => ∃ (s : Addr) (g : Pq) (sent t : Str) (ready : List Nat), vs = [.ref s, .str t] ∧ SrvAt C H s g sent ready ∧ sent.length + t.length ≤ sizeLine ∧ ∀ H', SrvAt C H' s g (sent ++ t) ready → Oth [s] H H' → Q (.str t) H'
def spPText (n : Nat) : Sp := fun vs H Q _ => ∃ (k : Nat) (ns : List Nd) (v : V), vs = [v, .int (k : Int)] ∧ IsT H (.tup (Nd.toTs ns)) v ∧ k < 1000 ∧ Nd.Fits ns ∧ Nd.cnts ns ≤ 70000 ∧ Nd.hts ns < n ∧ ∀ H', Oth [] H H' → Q (.str (ptxt k ns)) H'
def spRender (C : Addr) : Sp := fun vs H Q _ => ∃ (s : Addr) (g : Pq) (sent : Str) (ready : List Nat), vs = [.ref s] ∧ SrvAt C H s g sent ready ∧ g.Ok ∧ RdyOk g ready ∧
  ∀ H', SrvAt C H' s g (sent ++ rendT g sent ready) ready → Oth [s] H H' → Q (.str (rendT g sent ready)) H'
def spResolve (C : Addr) : Sp := fun vs H Q _ => ∃ (s : Addr) (g : Pq) (sent : Str) (ready : List Nat) (k : Nat), vs = [.ref s, .int (k : Int)] ∧ SrvAt C H s g sent ready ∧ g.Ok ∧ RdyOk g ready ∧ k < g.parts.length ∧ sent.length ≤ 9000000 ∧
  ∀ H', SrvAt C H' s g (sent ++ resT g sent ready k) (addN ready k) → Oth [s] H H' → Q (.str (resT g sent ready k)) H'
/-! ### how the law writes -/
def headB (p : Path) (tag : Str) (act : Option Nat) : Str := "(" ++ wName (lastN p) ++ " " ++ tag ++ " " ++ wAct act ++ " "
def headC (p : Path) (c : Nat) (ps rs : List Int) : Str := match lastN p with
  | .part k => "{" ++ numS (k : Int) ++ ":" ++ wNums rs ++ " "
  | n => "[" ++ wName n ++ " " ++ numS (c : Int) ++ " " ++ wNums ps ++ " " ++ wNums rs ++ " "
def tailC (p : Path) : Str := if (lastN p).isPart = true then "}" else "]"
theorem wr_box {p : Path} {tag : Str} {o : Path} {act : Option Nat} {ns : List Nd} : (Nd.box p tag o act ns).wr = headB p tag act ++ Nd.wrs ns ++ ")" := by
  unfold headB
  simp only [Nd.wr, wWords, assA, strE, appE]
theorem wr_child {p : Path} {c : Nat} {ps rs : List Int} {ns : List Nd} : (Nd.child p c ps rs ns).wr = headC p c ps rs ++ Nd.wrs ns ++ tailC p := by
  unfold headC tailC
  simp only [Nd.wr]
  cases lastN p with
  | part k => simp only [wChild, wPart, assA, Nm.isPart, if_true]
  | «at» t i | key t i => simp only [wChild, wWords, assA, strE, appE, Nm.isPart]; rfl
mutual
/-- where texts end, fields end, boxes begin -/
def Nd.mk1 (off : Nat) : Nd → List (Path × Nat)
  | .text p s => [(p, off + (Nd.text p s).wr.length)]
  | .box p tag o act ns => (p, off + (headB p tag act).length) :: Nd.mks (off + (headB p tag act).length) ns
  | .child p c ps rs ns => Nd.mks (off + (headC p c ps rs).length) ns
  | .place _ _ => []
  | .input p tag o c v => [(p, off + (Nd.input p tag o c v).wr.length)]
def Nd.mks (off : Nat) : List Nd → List (Path × Nat)
  | [] => []
  | n :: ns => n.mk1 off ++ Nd.mks (off + n.wr.length) ns
end
theorem mks_app (b : List Nd) : ∀ (a : List Nd) (off : Nat), Nd.mks off (a ++ b) = Nd.mks off a ++ Nd.mks (off + (Nd.wrs a).length) b
  | [], off => by simp only [List.nil_append, Nd.mks, Nd.wrs]; rfl
  | n :: a, off => by simp only [List.cons_append, Nd.mks, Nd.wrs, mks_app b a, List.append_assoc, lenA, Nat.add_assoc]
mutual
theorem Nd.mk1_len : ∀ (n : Nd) (off : Nat), (n.mk1 off).length ≤ n.cnt
  | .text _ _, _ => Nat.le_refl _
  | .box _ _ _ _ ns, off => by simp only [Nd.mk1, Nd.cnt, List.length_cons]; exact Nat.succ_le_succ (Nd.mks_len ns)
  | .child _ _ _ _ ns, off => by simp only [Nd.mk1, Nd.cnt]; exact Nat.le_trans (Nd.mks_len ns) (Nat.le_succ _)
  | .place _ _, _ => Nat.zero_le _
  | .input _ _ _ _ _, _ => Nat.le_refl _
theorem Nd.mks_len : ∀ (ns : List Nd) {off : Nat}, (Nd.mks off ns).length ≤ Nd.cnts ns
  | [], _ => Nat.zero_le _
  | n :: ns, off => by
    have := Nd.mk1_len n off
    have := Nd.mks_len ns (off := off + n.wr.length)
    simp only [Nd.mks, Nd.cnts, List.length_append]; omega
end
def mkT (x : Path × Nat) : T := .tup [pathT x.1, .int (x.2 : Int)]
def spLWrite (n : Nat) : Sp := fun vs H Q _ => ∃ (ns : List Nd) (v : V) (o L : Addr) (t : Str) (us : List V), vs = [v, .ref o] ∧ IsT H (.tup (Nd.toTs ns)) v ∧ H o = some (.lst [.str t, .ref L]) ∧ H L = some (.lst us) ∧ o ≠ L ∧ Nd.Fits ns ∧ Nd.hts ns < n ∧
  Nd.cnts ns ≤ 70000 ∧ t.length + 120 * Nd.cnts ns ≤ 9000000 ∧ us.length + Nd.cnts ns ≤ 200000 ∧
  ∀ H' ms, H' o = some (.lst [.str (t ++ Nd.wrs ns), .ref L]) → H' L = some (.lst (us ++ ms)) → Paired (IsT H') ((Nd.mks t.length ns).map mkT) ms → Oth [o, L] H H' → Q .non H'
def spLPage (n : Nat) : Sp := fun vs H Q _ => ∃ (p : Path) (c : Nat) (ps rs : List Int) (ns : List Nd) (v : V), vs = [v] ∧ IsT H (Nd.child p c ps rs ns).toT v ∧ Sm rs ∧ rs.length ≤ 2 ∧ Nd.Fits ns ∧ Nd.cnts ns ≤ 70000 ∧ Nd.hts ns < n ∧
  ∀ r L us H', H r = none → H' r = some (.lst [.str (wPage rs ns), .ref L]) → H' L = some (.lst us) → Paired (IsT H') ((Nd.mks ((wNums rs).length + 1) ns).map mkT) us → Oth [] H H' → Q (.ref r) H'
def spLEvery (n : Nat) : Sp := fun vs H Q _ => ∃ (ns : List Nd) (v : V), vs = [v] ∧ IsT H (.tup (Nd.toTs ns)) v ∧ Nd.hts ns < n ∧ Nd.cnts ns ≤ 80000 ∧
  ∀ r rs H', H r = none → H' r = some (.lst rs) → Paired (IsT H') ((Nd.evs ns).map Nd.toT) rs → Oth [] H H' → Q (.ref r) H'
def spLPart : Sp := fun vs H Q _ => ∃ (g : Pq) (first : List Nat) (k : Nat) (vp vf : V), vs = [vp, vf, .int (k : Int)] ∧ IsT H g.toT vp ∧ IsT H (natsT first) vf ∧ g.Ok ∧ RdyOk g first ∧ k < g.parts.length ∧
  ∀ H', Oth [] H H' → Q (.str (ptxt k (own12 (fstP g (addN first k))))) H'
mutual
theorem Nd.ev_len : ∀ n : Nd, n.ev.length ≤ n.cnt
  | .text _ _ | .input _ _ _ _ _ | .place _ _ => Nat.zero_le _
  | .box _ _ _ _ ns => by simp only [Nd.ev, Nd.cnt]; exact Nat.le_trans (Nd.evs_len ns) (Nat.le_succ _)
  | .child _ _ _ _ ns => by simp only [Nd.ev, Nd.cnt, List.length_cons]; exact Nat.succ_le_succ (Nd.evs_len ns)
theorem Nd.evs_len : ∀ ns : List Nd, (Nd.evs ns).length ≤ Nd.cnts ns
  | [] => Nat.zero_le _
  | n :: ns => by have := Nd.ev_len n; have := Nd.evs_len ns; simp only [Nd.evs, Nd.cnts, List.length_append]; omega
end
theorem evs_app (b : List Nd) : ∀ a : List Nd, Nd.evs (a ++ b) = Nd.evs a ++ Nd.evs b
  | [] => rfl
  | n :: a => by simp only [List.cons_append, Nd.evs, evs_app b a, List.append_assoc]
theorem pfs_app (k : Nat) (b : List Nd) : ∀ a : List Nd, Nd.pfs k (a ++ b) = (Nd.pfs k a).or (Nd.pfs k b)
  | [] => rfl
  | n :: a => by simp only [List.cons_append, Nd.pfs, pfs_app k b a, Option.or_assoc]
theorem strF {a b : Str} (h : a ≠ b) : decide (V.str a = V.str b) = false := decide_eq_false fun z => h (by injection z)
theorem strTr {a : Str} : decide (V.str a = V.str a) = true := decide_eq_true rfl
theorem atI_end {xs : List V} {x : V} : atI (xs ++ [x]) ((((xs ++ [x]).length : Nat) : Int) - 1) = some x := by
  have e : (((xs ++ [x]).length : Nat) : Int) - 1 = ((xs.length : Nat) : Int) := by rw [List.length_append]; simp
  rw [e]
  refine atI_nat ?_
  rw [List.getElem?_append_right (Nat.le_refl _), Nat.sub_self]
  rfl
theorem set0 {a b c : V} : ([a, b] : List V).set 0 c = [c, b] := rfl
theorem sl_end {K : PySem.W.Frag} {H : Hp} {a : Addr} {xs : List V} {Q : VK} (ha : H a = some (.tup xs)) (q : ∀ (c : Addr) (H' : Hp), Oth [] H H' → H' c = some (.tup (xs.drop (xs.length - 1))) → Q (.ref c) H') : rSlA K (.ref a) (some (((xs.length : Nat) : Int) - 1)) none H Q := by
  have e : HT.sIx xs.length 0 (some (((xs.length : Nat) : Int) - 1)) = xs.length - 1 := by
    show (if (((xs.length : Nat) : Int) - 1) < 0 then ((((xs.length : Nat) : Int) - 1) + (xs.length : Int)).toNat else min (((xs.length : Nat) : Int) - 1).toNat xs.length) = _
    split <;> omega
  refine ⟨a, xs, rfl, SqT.of ha, fun h => ?_, fun h p hp => ?_⟩
  · have z := h.1
    rw [e] at z
    exact q a H Oth.refl (by rw [z, List.drop_zero]; exact ha)
  · refine q p _ (Oth.new hp) ?_
    rw [upd_same]
    unfold cutV
    rw [HT.sIx_none, e, List.take_of_length_le (by rw [List.length_drop]; omega)]
theorem drop_last (p : Path) : p.drop (p.length - 1) = if p = [] then [] else [lastN p] := by
  by_cases h : p = []
  · rw [if_pos h, h]; rfl
  · rw [if_neg h]
    obtain ⟨q, n, rfl⟩ : ∃ q n, p = q ++ [n] := ⟨p.dropLast, p.getLast h, (List.dropLast_concat_getLast h).symm⟩
    rw [lastN_snoc, List.length_append, List.length_singleton, Nat.add_sub_cancel, List.drop_left]
theorem drop_part {p : Path} {k : Nat} : p.drop (p.length - 1) = [.part k] ↔ lastN p = .part k := by
  rw [drop_last]
  by_cases h : p = []
  · rw [if_pos h, h]
    exact ⟨fun z => (by cases z), fun z => (by cases z)⟩
  · rw [if_neg h]
    exact ⟨fun z => by injection z, fun z => by rw [z]⟩
theorem PathOk.drop {p : Path} (h : PathOk p) (n : Nat) : PathOk (p.drop n) := ⟨fun m hm => h.sh m (List.mem_of_mem_drop hm), Nat.le_trans (by rw [List.length_drop]; omega) h.len⟩
theorem drop_tup {H : Hp} {p : Path} {xs : List V} {c : Addr} {n : Nat} (hp : Paired (IsT H) (p.map Nm.toT) xs) (e : H c = some (.tup (xs.drop n))) : IsT H (pathT (p.drop n)) (.ref c) := by
  refine .mk e ?_
  rw [List.map_drop]
  induction n generalizing p xs with
  | zero => exact hp
  | succ n ih =>
    cases p with
    | nil => cases hp; exact .nil
    | cons x p =>
      cases hp with
      | cons a b => exact (fun {ys : List T} {zs : List V} (hz : Paired (IsT H) ys zs) => (show Paired (IsT H) (ys.drop n) (zs.drop n) from (by
          clear ih e
          induction n generalizing ys zs with
          | zero => exact hz
          | succ n ih =>
            cases hz with
            | nil => exact .nil
            | cons _ t => exact ih t))) b
mutual
theorem Nd.ev_pok : ∀ n : Nd, n.Pok → ∀ m ∈ n.ev, m.Pok
  | .text _ _, _, m, hm | .input _ _ _ _ _, _, m, hm | .place _ _, _, m, hm => by simp [Nd.ev] at hm
  | .box _ _ _ _ ns, h, m, hm => Nd.evs_pok ns h.2.2 m hm
  | .child p c ps rs ns, h, m, hm => by
    rw [Nd.ev] at hm
    rcases List.mem_cons.mp hm with rfl | hm
    · exact h
    · exact Nd.evs_pok ns h.2 m hm
theorem Nd.evs_pok : ∀ ns : List Nd, Nd.Poks ns → ∀ m ∈ Nd.evs ns, m.Pok
  | [], _, m, hm => by simp [Nd.evs] at hm
  | n :: ns, h, m, hm => by
    rw [Nd.evs, List.mem_append] at hm
    rcases hm with hm | hm
    · exact Nd.ev_pok n h.1 m hm
    · exact Nd.evs_pok ns h.2 m hm
end
mutual
theorem Nd.ev_fit : ∀ n : Nd, n.Fit → ∀ m ∈ n.ev, m.Fit ∧ m.cnt ≤ n.cnt ∧ m.ht ≤ n.ht ∧ ∃ p c ps rs ns, m = .child p c ps rs ns
  | .text _ _, _, m, hm | .input _ _ _ _ _, _, m, hm | .place _ _, _, m, hm => by simp [Nd.ev] at hm
  | .box _ _ _ _ ns, h, m, hm => by
    obtain ⟨a, b, c, d⟩ := Nd.evs_fit ns h.2.2.2.2.2 m hm
    simp only [Nd.cnt, Nd.ht]
    exact ⟨a, by omega, by omega, d⟩
  | .child p c ps rs ns, h, m, hm => by
    rw [Nd.ev] at hm
    rcases List.mem_cons.mp hm with rfl | hm
    · exact ⟨h, Nat.le_refl _, Nat.le_refl _, _, _, _, _, _, rfl⟩
    · obtain ⟨a, b, c, d⟩ := Nd.evs_fit ns h.2.2.2.2.2.2.2 m hm
      simp only [Nd.cnt, Nd.ht]
      exact ⟨a, by omega, by omega, d⟩
theorem Nd.evs_fit : ∀ ns : List Nd, Nd.Fits ns → ∀ m ∈ Nd.evs ns, m.Fit ∧ m.cnt ≤ Nd.cnts ns ∧ m.ht ≤ Nd.hts ns ∧ ∃ p c ps rs ns, m = .child p c ps rs ns
  | [], _, m, hm => by simp [Nd.evs] at hm
  | n :: ns, h, m, hm => by
    rw [Nd.evs, List.mem_append] at hm
    simp only [Nd.cnts, Nd.hts]
    rcases hm with hm | hm
    · obtain ⟨a, b, c, d⟩ := Nd.ev_fit n h.1 m hm
      exact ⟨a, by omega, by omega, d⟩
    · obtain ⟨a, b, c, d⟩ := Nd.evs_fit ns h.2 m hm
      exact ⟨a, by omega, by omega, d⟩
end
/-- what the law finds is what the server finds -/
theorem lfind {X : Pc} (h : X.Good) (k : Nat) : (Nd.evs [child X 12 [] 0 []]).find? (isP k) = Nd.pfs k (own12 X) := by
  rw [child12]
  simp only [Nd.evs, Nd.ev, List.append_nil]
  rw [List.find?_cons_of_neg (by show ¬ decide (lastN [] = .part k) = true; rw [decide_eq_true_iff]; intro z; cases z), Nd.evs_own _ (own_fits h).2.2.2.2.2.1]
end Pw
namespace Pw
open PySem PySem.Spec PyProof.Rows L2
theorem pfs_pres {X : Pc} (h : X.Ok) {k : Nat} {m : Nd} : ∀ (n own : Nat) (free : Bool) (o : Path) (c : Sc) (ts : List Tp) (p : Path), own ≤ X.g.comps.length - 1 → Tp.Oks own (X.g.comps.length - 1) free ts → Nd.pfs k (fill X n o c ts p) = some m → k ∈ X.pres
  | 0, _, _, _, _, _, _, _, _, e => by cases e
  | n + 1, own, free, o, c, ts, p, ho, hk, e => by
    have one : ∀ it ∈ lawNamed [] (Tp.dis c [] [] 0 ts), (nodeOf X (fill X n) (lkAll n) o { c with index := it.2.2 } (p ++ [it.1]) it.2.1).pf k = some m → k ∈ X.pres := fun it hit e => by
      have np := item_np hit
      obtain ⟨dd, hdd, h1, h2⟩ := lawNamed_tp _ _ it hit
      obtain ⟨a1, ⟨fr, a2⟩, a3, a4⟩ := Tp.dis_ok ts c [] [] 0 hk dd hdd
      rw [← h1] at a1 a2
      generalize it.2.1 = t at a1 a2 np e
      cases t with
      | when _ _ _ => cases a1
      | each _ _ => cases a1
      | text s => cases e
      | «show» s => cases e
      | input _ _ => cases e
      | box tag key act cs => exact pfs_pres h n own fr o { c with index := it.2.2 } cs (p ++ [it.1]) ho a2.2.2.2 e
      | child d key props =>
        simp only [nodeOf, childOf, Nd.pf, lastN_snoc] at e
        rw [if_neg fun z => (by have := (np k).mp z; cases this)] at e
        cases e
      | part j =>
        simp only [nodeOf] at e
        split at e
        · rename_i hin
          simp only [childOf, Nd.pf, lastN_snoc] at e
          split at e
          · rename_i hz
            have := (np k).mp hz
            injection this with this
            rw [← this]; exact hin
          · cases e
        · cases e
    simp only [fill] at e
    revert e
    generalize hl : lawNamed [] (Tp.dis c [] [] 0 ts) = l at one
    clear hl
    induction l with
    | nil => intro e; cases e
    | cons it l ih =>
      intro e
      rw [List.map_cons, Nd.pfs] at e
      cases z : (nodeOf X (fill X n) (lkAll n) o { c with index := it.2.2 } (p ++ [it.1]) it.2.1).pf k with
      | some x => rw [z] at e; exact one it List.mem_cons_self (by rw [z]; exact e)
      | none => rw [z] at e; exact ih (fun y hy => one y (List.mem_cons_of_mem _ hy)) e
/-- a part that is there -/
theorem part_there {g : Pq} {rdy : List Nat} (hg : g.Ok) (hr : RdyOk g rdy) {k : Nat} {m : Nd} (hm : m ∈ Nd.evs [child (fstP g rdy) 12 [] 0 []]) (hp : isP k m = true) : k ∈ rdy ∧ ptxt k (own12 (fstP g (addN rdy k))) = m.wr := by
  have gX := hr.good hg
  obtain ⟨f1, f2, f3, f4, f5, f6, f7⟩ := own_fits gX
  have c := gX.comp (Nat.zero_le _)
  rw [child12] at hm
  simp only [Nd.evs, Nd.ev, List.append_nil] at hm
  rcases List.mem_cons.mp hm with rfl | hm
  · have : lastN [] = .part k := of_decide_eq_true hp
    cases this
  · have e := Nd.evs_one _ f6 f7 hm hp
    have kin : k ∈ rdy := pfs_pres gX.toOk 12 0 true _ _ _ _ (Nat.zero_le _) c.oks e
    refine ⟨kin, ?_⟩
    rw [addN_in hr hg kin]
    unfold ptxt
    rw [e]
structure W30 (C : Addr) (H : Hp) (b d pl : Addr) (z : Bt) (s pa rla : Addr) (g : Pq) (text : Str) (rdy rl : List Nat) : Prop where
  bx : By H b d pl z
  sv : SrvAt C H s g text rdy
  rd : H rla = some (.lst (rl.map natV))
  pm : rl.Perm rdy
  ok : RdyOk g rdy
  ne : rla ≠ b ∧ rla ≠ d ∧ rla ≠ pl
  ln : text.length ≤ 7900000 + 200000 * rdy.length
  tg : IsT H g.toT (.ref pa)
section
variable {C : Addr} {H H' : Hp} {b d pl : Addr} {z : Bt} {s pa rla : Addr} {g : Pq} {text : Str} {rdy rl : List Nat}
theorem W30.ns (h : W30 C H b d pl z s pa rla g text rdy rl) : b ≠ s ∧ d ≠ s ∧ pl ≠ s ∧ rla ≠ s := by
  obtain ⟨xs, e⟩ := h.bx.is
  obtain ⟨ds, e2⟩ := h.bx.dig
  exact ⟨h.sv.nel e, h.sv.nel e2, h.sv.nel h.bx.parts, h.sv.nel h.rd⟩
theorem W30.draw (h : W30 C H b d pl z s pa rla g text rdy rl) (o : Oth [b] H H') (bx : By H' b d pl z) : W30 C H' b d pl z s pa rla g text rdy rl :=
  ⟨bx, h.sv.oth o (by simp [h.ns.1.symm]), o.keep _ _ (by simp [h.ne.1]) h.rd, h.pm, h.ok, h.ne, h.ln, h.tg.oth o⟩
theorem W30.nil (h : W30 C H b d pl z s pa rla g text rdy rl) (o : Oth [] H H') : W30 C H' b d pl z s pa rla g text rdy rl := h.draw (o.mono (by simp)) (h.bx.oth o (by simp) (by simp) (by simp))
theorem W30.srv {t' : Str} {r' : List Nat} (h : W30 C H b d pl z s pa rla g text rdy rl) (o : Oth [s] H H') (sv : SrvAt C H' s g t' r') (pm : rl.Perm r') (ok : RdyOk g r') (ln : t'.length ≤ 7900000 + 200000 * r'.length) : W30 C H' b d pl z s pa rla g t' r' rl := by
  obtain ⟨h1, h2, h3, h4⟩ := h.ns
  exact ⟨h.bx.oth o (by simp [h1]) (by simp [h2]) (by simp [h3]), sv, o.keep _ _ (by simp [h4]) h.rd, pm, ok, h.ne, ln, h.tg.oth o⟩
theorem sort_rdy (h : W30 C H b d pl z s pa rla g text rdy rl) {ns : List Int} (p : ns.Perm (rl.map Int.ofNat)) (le : ns.Pairwise (· ≤ ·)) : ns = rdy.map Int.ofNat :=
  perm_asc (p.trans (h.pm.map _)) le (nat_asc h.ok.asc)
end
theorem nat_vs (l : List Nat) : l.map natV = (l.map Int.ofNat).map V.int := by rw [List.map_map]; rfl
theorem rend_len {g : Pq} (hg : g.Ok) {text : Str} {rdy : List Nat} (h : RdyOk g rdy) (ln : text.length ≤ 7900000 + 200000 * rdy.length) : (text ++ rendT g text rdy).length ≤ 7900000 + 200000 * rdy.length := by
  unfold rendT
  split
  · rename_i e
    rw [e, strE]
    have := pageT_len hg h
    omega
  · rw [appE]; exact ln
theorem res_len {g : Pq} (hg : g.Ok) {text : Str} {rdy : List Nat} {k : Nat} (h : RdyOk g rdy) (hk : k < g.parts.length) (ln : text.length ≤ 7900000 + 200000 * rdy.length) : (text ++ resT g text rdy k).length ≤ 7900000 + 200000 * (addN rdy k).length := by
  unfold resT
  by_cases hin : k ∈ rdy
  · rw [if_pos (.inl hin), appE, addN_in h hg hin]; exact ln
  · have la : (addN rdy k).length = rdy.length + 1 := by
      obtain ⟨a, b⟩ := h.add hg hk
      have : (addN rdy k).Perm (rdy ++ [k]) := (List.perm_ext_iff_of_nodup (a.asc.imp fun z => Nat.ne_of_lt z) (List.nodup_append.mpr ⟨h.asc.imp fun z => Nat.ne_of_lt z, by simp, fun x hx y hy e => hin (by rw [← List.mem_singleton.mp hy, ← e]; exact hx)⟩)).mpr fun x => by rw [b x, List.mem_append, List.mem_singleton]
      rw [this.length_eq, List.length_append]; rfl
    rw [la]
    split
    · rw [appE]; omega
    · have := ptxt_len ((rdy_one hk).good hg) k
      rw [lenA]; omega
end Pw
namespace Pw
open PySem PySem.Spec PyProof.Rows L2
theorem enum_new_tup {v : Value} {o : Obj} {HH : Heap → Prop} (B : Begins v o HH) :
    Meets (Builtin.«enumerate.__new__» ⟨[.type "enumerate", v], []⟩) (fun _ R s => HH s.heap ∧
      R (.ok (.ret (.ref (s.heap.push o).objs.size))) { s with heap := (s.heap.push o).push { cls := .type "enumerate", data := .fields #[.none, .bool false, .ref s.heap.objs.size, rawInt 0, .none, .none] } }) :=
  .of_wp fun prog w A R s h => by
    obtain ⟨hp, g, d, tk, os⟩ := s
    obtain ⟨hB, h⟩ := h
    have isEnum := sub_enumerate
    have begun : ∀ {A' : Around} {E : Value → Shared → Prop} {Q : Value → Shared → Prop}, Q (.ref hp.objs.size) ⟨hp.push o, g, d, tk, os⟩ → wpAny (model prog w) A' (pyIter v) Q E ⟨hp, g, d, tk, os⟩ :=
      fun q => B.iter prog w _ _ ⟨hp, g, d, tk, os⟩ _ hB q
    wp_walk using begun
    refine wpAny_stack_any fun st => wpAny_pure ?_
    split
    · rename_i c _ _ _ _ _
      cases (c == Value.type "enumerate") <;> (wp_walk using begun; exact ⟨_, rfl, h⟩)
    · wp_walk using begun
      exact ⟨_, rfl, h⟩
section
variable {prog : Program} {w : World} {A : Around} {E : Value → Shared → Prop} {s : Shared}
theorem call_enum_tup {t : Addr} {items : Array Value} {Q : Value → Shared → Prop} (hT : IsTup s.heap t items)
    (h : ∀ h', IsEnum h' (s.heap.objs.size + 1) s.heap.objs.size 0 .none → h'.IsTupleIter s.heap.objs.size t 0 → (∀ b o, s.heap.get? b = some o → h'.get? b = some o) → Q (.ref (s.heap.objs.size + 1)) { s with heap := h' }) :
    wpAny (model prog w) A (call (.type "enumerate") [.ref t]) Q E s := by
  refine callType_new F.called_enumerate (by decide) (F.typeCall_enumerate_1 _) (F.newCall_enumerate_1 _) (fun obj => F.args_object_init_2 obj _) F.entry_enumerate_new (enum_new_tup (begins_tuple t items)) ⟨hT, ?_⟩
  generalize ho : ({ cls := .type "tuple_iterator", data := .fields #[.ref t, .int 0 0] } : Obj) = o
  have fr : o.isFreed = false := by subst ho; rfl
  have hz : (s.heap.push o).objs.size = s.heap.objs.size + 1 := Heap.size_push ..
  show _ ∧ _
  rw [hz]
  generalize hq : ({ cls := .type "enumerate", data := .fields #[.none, .bool false, .ref s.heap.objs.size, rawInt 0, .none, .none] } : Obj) = q
  have he : ((s.heap.push o).push q).get? (s.heap.objs.size + 1) = some q := by
    have z := Heap.get?_push_size (s.heap.push o) (o := q) (by subst hq; rfl)
    rw [hz] at z
    exact z
  have he' : IsEnum ((s.heap.push o).push q) (s.heap.objs.size + 1) s.heap.objs.size 0 .none := by subst hq; exact he
  refine ⟨⟨_, he', rfl⟩, h _ he' ?_ fun b ob x => Heap.get?_push_of_some _ (Heap.get?_push_of_some _ x)⟩
  subst ho
  exact ⟨_, Heap.get?_push_of_some _ (Heap.get?_push_size _ rfl), rfl, rfl⟩
end
/-- the tuple at a, its items in new pairs -/
def Itte (K : PySem.W.Frag) (a : Addr) (xs : List V) : It :=
  ⟨fun i H => SqT K H a xs ∧ i < xs.length, fun i H v H' => ∃ T x, v = .ref T ∧ H T = none ∧ H' = upd H T (.tup [.int (i : Nat), x]) ∧ xs[i]? = some x, fun i H => SqT K H a xs ∧ i = xs.length⟩
theorem turn_enumT {P : Program} {w : World} {K : PySem.W.Frag} {elts : List Expr} {kk : Nat} {tpos : Pos} (a e it : Addr) (xs : List V) :
    Turn P w K (.Tuple elts kk tpos) (Itte K a xs) [e, it] e (fun i h => (∃ old, IsEnum h e it ((i : Nat) : Int) old) ∧ h.IsTupleIter it a i ∧ e ≠ it ∧ a ≠ it ∧ a ≠ e) where
  mem := by simp
  obj := fun i h st b hb => by
    obtain ⟨⟨old, he⟩, ⟨o, ho, hc, hd⟩, _⟩ := st
    rcases (by simpa using hb : b = e ∨ b = it) with z | z
    · rw [z]; exact ⟨_, he, fun v q => nomatch q⟩
    · rw [z]; exact ⟨o, ho, fun v q => by rw [hd] at q; cases q⟩
  keep := fun i h h' st k => by
    obtain ⟨⟨old, he⟩, hi, hne⟩ := st
    exact ⟨⟨old, k e (by simp) _ he⟩, hi.at fun o q => k it (by simp) o q, hne⟩
  item := by
    intro X hP hw hK hc i pins s σ H E I hf st hg
    subst hP hw hK
    obtain ⟨⟨old, he⟩, hit, hne, hai, hae⟩ := st
    obtain ⟨hq, hi⟩ := hg
    obtain ⟨its, rv, tp, hz⟩ := I.tuple hq
    have hl := rv.length
    have e_lt : e < s.heap.objs.size := Heap.lt_size he
    have i_lt : it < s.heap.objs.size := by obtain ⟨_, q, _⟩ := hit; exact Heap.lt_size q
    have D := Draws.tuple (prog := X.prog) (w := X.w) (A := X.A.in1) (I.ok.hd hc) it a hai its.toArray
    refine wpAny_pyNext_enum_itemD D he ⟨hit, tp⟩ (by simp only [List.size_toArray]; omega) hne (by simp [hne, hae.symm]) fun u h' tk hu ho st' hT hsz hk => ?_
    obtain ⟨x, hx, ru⟩ : ∃ x, xs[i]? = some x ∧ RelV x u := by
      obtain ⟨u', hu', ru⟩ := rv.get (List.getElem?_eq_getElem hi)
      have hu2 : its[i]? = some u := by simpa using hu
      rw [hu2] at hu'
      cases hu'
      exact ⟨_, List.getElem?_eq_getElem hi, ru⟩
    refine ⟨_, rfl, wpAny_letOwnedTupleGo_enum (s := { s with heap := h', toks := tk + 1 }) ho fun h2 he2 sb => ?_⟩
    have hT2 : h2.get? s.heap.objs.size = some { cls := .type "tuple", data := .seq #[.int i tk, u] } := (sb.2 _ (Nat.ne_of_gt e_lt)).trans hT
    have new : ObjOk X.prog X.w (upd H s.heap.objs.size (.tup [.int (i : Nat), x])) h2 s.heap.objs.size (.tup [.int (i : Nat), x]) :=
      ⟨by show 2 ≤ sizeLine; decide, [.int i tk, u], .cons ⟨_, rfl⟩ (.cons ru .nil), ⟨_, hT2, rfl, _, rfl⟩⟩
    have I1 : Inv X pins σ (upd H s.heap.objs.size (.tup [.int (i : Nat), x])) { s with heap := h2, toks := tk + 1 } :=
      I.turnedNew (ch := [e, it]) (fun b ob hb q => (sb.2 b (fun z => hb (by simp [z]))).trans (hk b ob (fun z => hb (by simp [z])) (fun z => hb (by simp [z])) q)) hf (Nat.le_refl _) new
    refine ⟨.ref s.heap.objs.size, _, I1, rfl, ⟨_, x, rfl, I.hok.fresh (Nat.le_refl _), rfl, hx⟩, ⟨⟨u, ?_⟩, st'.1.at fun o q => (sb.2 it (Ne.symm hne)).trans q, hne, hai, hae⟩, fun b hb => ?_⟩
    · rw [show ((i + 1 : Nat) : Int) = (i : Int) + 1 by omega]
      exact he2
    · have lt : b < s.heap.objs.size := by
        rcases (by simpa using hb : b = e ∨ b = it) with z | z
        · rw [z]; exact e_lt
        · rw [z]; exact i_lt
      rw [upd_ne (Nat.ne_of_lt lt)]
      exact (hf b hb).1
  done := by
    intro X hP hw hK hc i pins s σ H E I hf st hg
    subst hP hw hK
    obtain ⟨⟨old, he⟩, hit, hne, hai, hae⟩ := st
    obtain ⟨hq, rfl⟩ := hg
    obtain ⟨its, rv, tp, hz⟩ := I.tuple hq
    obtain ⟨f0, f1, f2, f3, f4, f5⟩ := hf it (by simp)
    have hl := rv.length
    have D := Draws.tuple (prog := X.prog) (w := X.w) (A := X.A.in1) (I.ok.hd hc) it a hai its.toArray
    have e1 : xs.length = its.toArray.size := by simp only [List.size_toArray]; omega
    rw [e1] at hit he
    exact wpAny_pyNext_enum_endD D he ⟨hit, tp⟩ fun h' eb => ⟨rfl, I.turned (t' := s.toks) (fun b o hb q => eb b o hb q) f0 f1 f3 f4 f5⟩
  self := fun A i s Q E st h => let ⟨⟨_, he⟩, _⟩ := st; wpAny_pyIter_enum he h
def iEnumT (K : PySem.W.Frag) (ta : TA) : TI := fun σ H R => ta σ H fun vs H1 => ∃ a xs, vs = [.ref a] ∧ SqT K H1 a xs ∧ R (Itte K a xs) H1
theorem pi_enumT {X : Cx} {e : Expr} {ta : TA} {p pos tpos : Pos} {elts : List Expr} {kk : Nat} (hg : Gl X "enumerate") (hm : X.mg "enumerate" = none) (ha : PA X [e] ta) (hs : starEach [e] X.env = [(false, eval e X.env)] := by rfl) :
    PI X (.Tuple elts kk tpos) (.Call (.Name "enumerate" p) [e] [] pos) (iEnumT X.K ta) := by
  refine ⟨fun pins s σ H R I h => ?_⟩
  refine Call_ (ld_blt I hg hm boot_enumerate (PyProof.Rows.callWith_type1 (thn (ha.run pos pins s σ H _ I h) fun us s1 ⟨vs, H1, I1, r1, qq⟩ => ?_) hs rfl))
  obtain ⟨a, xs, rfl, hq, q⟩ := qq
  cases r1 with
  | cons r rr =>
    cases rr
    cases r
    obtain ⟨its, rv, tp, hz⟩ := I1.tuple hq
    have a_lt : a < s1.heap.objs.size := tp.lt
    refine call_enum_tup tp fun h' he hit hk => wpAny_pyIter_enum he ?_
    have I2 : Inv X pins σ H1 { s1 with heap := h' } := I1.kept (t' := s1.toks) hk
    refine ⟨s1.heap.objs.size + 1, [s1.heap.objs.size + 1, s1.heap.objs.size], _, _, H1, rfl, I2, turn_enumT a (s1.heap.objs.size + 1) s1.heap.objs.size xs, ⟨⟨.none, he⟩, hit, Nat.succ_ne_self _, Nat.ne_of_lt a_lt, Nat.ne_of_lt (Nat.lt_succ_of_lt a_lt)⟩, fun b hb => ?_, q⟩
    have hle : s1.heap.objs.size ≤ b := by
      rcases (by simpa using hb : b = s1.heap.objs.size + 1 ∨ b = s1.heap.objs.size) with z | z
      · rw [z]; exact Nat.le_add_right _ _
      · rw [z]; exact Nat.le_refl _
    exact I1.fpOk hle (I1.hok.fresh hle)
/-- a for over it -/
theorem for_enumT {K : PySem.W.Frag} {a : Addr} {xs : List V} {g : TG} {tb : TS} {D : Ends} {σ : L2.St} {H : Hp} (Pv : Nat → L2.St → Hp → Prop) (h0 : Pv 0 σ H) (hl : ∀ i σ H, i ≤ xs.length → Pv i σ H → SqT K H a xs)
    (hs : ∀ i x σ H T, xs[i]? = some x → Pv i σ H → H T = none → g (.ref T) σ (upd H T (.tup [.int (i : Nat), x])) fun σ2 H2 => tb { D with nx := Pv (i + 1), ct := Pv (i + 1), bk := D.nx } σ2 H2) (hd : ∀ σ H, Pv xs.length σ H → D.nx σ H) :
    ∃ W : Nat → Nat → L2.St → Hp → Prop, (∃ m, W 0 m σ H) ∧ ∀ i m σ H, W i m σ H →
      ((Itte K a xs).stop i H ∧ D.nx σ H) ∨ ((Itte K a xs).go i H ∧ ∃ N : L2.St → Hp → Prop, (∀ σ' H', N σ' H' → ∃ m', m' < m ∧ W (i + 1) m' σ' H') ∧ ∀ x H', (Itte K a xs).yld i H x H' → g x σ H' fun σ2 H2 => tb { D with nx := N, ct := N, bk := D.nx } σ2 H2) := by
  refine ⟨fun i m σ H => m = xs.length - i ∧ i ≤ xs.length ∧ Pv i σ H, ⟨xs.length, by simp, Nat.zero_le _, h0⟩, ?_⟩
  rintro i m σ H ⟨rfl, hi, p⟩
  have q := hl i σ H hi p
  by_cases lt : i < xs.length
  · refine .inr ⟨⟨q, lt⟩, Pv (i + 1), fun σ' H' p' => ⟨xs.length - (i + 1), by omega, rfl, lt, p'⟩, fun v H' y => ?_⟩
    obtain ⟨T, x, rfl, hT, rfl, hx⟩ := y
    exact hs i x σ H T hx p hT
  · obtain rfl : i = xs.length := by omega
    exact .inl ⟨⟨q, rfl⟩, hd σ H p⟩
end Pw
namespace Pw
open PySem PySem.Spec PyProof.Rows L2
def topS (i : Nat) : Stmt := PySem.Challenge.pw_pagewake_k30_pages_are_written.main.body.getD i (.Pass ⟨0, 0, 0, 0⟩)
abbrev sCell : Stmt := topS 38
abbrev sDigits : Stmt := topS 39
abbrev sDraw : Stmt := topS 40
theorem scCell : FnScope ["script", "k"] ["script", "k"] (defScope sCell) := ⟨rfl, rfl, rfl, by decide +kernel, rfl, by decide +kernel, by decide +kernel⟩
theorem scDigits : FnScope ["script", "first", "last", "digits", "k", "cell", "turn", "seed"] ["script", "first", "last"] (defScope sDigits) := ⟨rfl, rfl, rfl, by decide +kernel, rfl, by decide +kernel, by decide +kernel⟩
theorem scDraw : FnScope ["box", "many", "at"] ["box", "many"] (defScope sDraw) := ⟨rfl, rfl, rfl, by decide +kernel, rfl, by decide +kernel, by decide +kernel⟩
section
variable {P : Program} {w : World} {K : PySem.W.Frag} {mg : Str → Option Value} {base : Heap}
theorem ok_cell {f : Addr} {fd : FuncData} {k : Nat} (F : Fun K "_law_cell" "_law_cell" sCell f fd) (ml : mg "len" = none) : FnOk P w K mg base CX0 (k + 1) f fd ["script", "k"] (spCell' K) := by
  refine F.ok scCell (fun vs H Q E h => ?_) (fun cdv A outer s H vs Q E hr h => ?_)
  · obtain ⟨a, xs, i, rfl, _⟩ := h
    rfl
  obtain ⟨a, ns, i, rfl, hS, q⟩ := h
  refine ⟨_, pss_cons (ps_if (pt_cmpR op_lt (pv 1) (pe_callB call_len_seq (by rfl) ml PySem.boot_len (pa_cons (pv 0) pa_nil)) (nomark _)) (pss_one (ps_ret (pe_ix ix_list (pv 0) (pv 1) (fun _ _ => rfl)))) pss_nil)
    (pss_one (ps_ret pe_int)), ?_⟩
  refine ⟨_, rfl, _, rfl, a, _, rfl, .inl hS, _, _, rfl, rfl, _, rfl, ite2 (fun c => ?_) (fun c => ?_)⟩
  · have c' : (i : Int) < (((ns.map V.int).length : Nat) : Int) := of_decide_eq_true c
    have c2 : i < (ns.map V.int).length := by omega
    rw [List.length_map] at c2
    have g : (ns.map V.int)[i]? = some (.int ns[i]) := by rw [List.getElem?_map, List.getElem?_eq_getElem c2]; rfl
    exact ⟨_, rfl, _, rfl, a, _, _, _, rfl, rfl, hS, atI_nat g, q _⟩
  · exact q 0
theorem ok_draw {f : Addr} {fd : FuncData} {k : Nat} (F : Fun K "_law_draw" "_law_draw" sDraw f fd) (ml : mg "len" = none) (mi : mg "int" = none) : FnOk P w K mg base CX0 (k + 1) f fd ["box", "many"] spDraw := by
  refine F.ok scDraw (fun vs H Q E h => ?_) (fun cdv A outer s H vs Q E hr h => ?_)
  · obtain ⟨b, d, m, rest, rfl, _⟩ := h
    rfl
  obtain ⟨b, d, m, rest, rfl, hm, ⟨ds, at', hb, hd⟩, q⟩ := h
  have nd := scDraw.nd
  have i0 : ∀ (xs : List V) (x : V), atI (x :: xs) 0 = some x := fun xs x => atI_nat (j := 0) rfl
  have i1 : ∀ (xs : List V) (x y : V), atI (x :: y :: xs) 1 = some y := fun xs x y => atI_nat (j := 1) rfl
  refine ⟨_, pss_cons (ps_set (i := 2) nd rfl (.inl rfl) (pe_ix ix_list (pv 0) pe_int (fun _ _ => rfl)))
    (pss_cons (ps_asg (pe_op op_add (pv 2) pe_int) (pg_sub (pv 0) pe_int set_list))
    (pss_cons (ps_if (pt_cmpR op_lt (pv 2) (pe_callB call_len_seq (by rfl) ml PySem.boot_len (pa_cons (pe_ix ix_list (pv 0) pe_int (fun _ _ => rfl)) pa_nil)) (nomark _))
        (pss_one (ps_ret (pe_op op_mod (pe_callTy call_int1 (by rfl) mi bo_int (pa_cons (pe_ix ix_list (pe_ix ix_list (pv 0) pe_int (fun _ _ => rfl)) (pv 2) (fun _ _ => rfl)) pa_nil)) (pv 1)))) pss_nil)
      (pss_one (ps_ret pe_int)))), ?_⟩
  refine ⟨_, rfl, b, _, _, _, rfl, rfl, SqL.of hb, i1 _ _ _, ?_⟩
  refine ⟨_, rfl, _, _, rfl, rfl, _, rfl, b, _, 1, 1, rfl, rfl, hb, ?_, ?_⟩
  · show (if (0 : Int) ≤ 1 then (if (1 : Int) < ((rest.length + 1 + 1 : Nat) : Int) then some (1 : Int).toNat else none) else _) = some 1
    rw [if_pos (by decide), if_pos (by omega)]
    rfl
  have dne : d ≠ b := by
    intro e
    rw [e, hb] at hd
    cases ds with
    | nil => cases hd
    | cons x r => cases hd
  have hb' : upd H b (.lst (.ref d :: .int ((at' : Int) + 1) :: rest)) b = some (.lst (.ref d :: .int ((at' : Int) + 1) :: rest)) := upd_same
  have hd' : upd H b (.lst (.ref d :: .int ((at' : Int) + 1) :: rest)) d = some (.lst (ds.map V.int)) := by rw [upd_ne dne]; exact hd
  have o1 : Oth [b] H (upd H b (.lst (.ref d :: .int ((at' : Int) + 1) :: rest))) := Oth.put (by simp) hb
  have bx : Box (upd H b (.lst (.ref d :: .int ((at' : Int) + 1) :: rest))) b d rest := ⟨ds, at' + 1, by rw [hb']; rfl, hd'⟩
  refine ⟨_, rfl, _, rfl, b, _, _, _, rfl, rfl, SqL.of hb', i0 _ _, d, _, rfl, .inl (SqL.of hd'), _, _, rfl, rfl, _, rfl, ite2 (fun c => ?_) (fun c => ?_)⟩
  · have c' : (at' : Int) < (((ds.map V.int).length : Nat) : Int) := of_decide_eq_true c
    have c2 : at' < (ds.map V.int).length := by omega
    rw [List.length_map] at c2
    have g : (ds.map V.int)[at']? = some (.int ds[at']) := by rw [List.getElem?_map, List.getElem?_eq_getElem c2]; rfl
    refine ⟨_, rfl, b, _, _, _, rfl, rfl, SqL.of hb', i0 _ _, _, rfl, d, _, _, _, rfl, rfl, SqL.of hd', atI_nat g, .inl ⟨_, rfl, _, rfl, _, _, rfl, rfl, hm, ?_⟩⟩
    exact q _ _ (Int.emod_nonneg _ (by omega)) (Int.emod_lt_of_pos _ hm) bx o1
  · exact q 0 _ (by omega) hm bx o1
theorem ok_digits {f g : Addr} {fd gd : FuncData} {k : Nat} (F : Fun K "_law_digits" "_law_digits" sDigits f fd) (GC : FnOk P w K mg base CX0 k g gd ["script", "k"] (spCell' K)) (bC : Binds K gd ["script", "k"] []) (kC : PySem.W.keepIn K (.ref g) = true) (mC : mg "_law_cell" = some (.ref g))
    (m_range : mg "range" = none) (m_int : mg "int" = none) : FnOk P w K mg base CX0 (k + 1) f fd ["script", "first", "last"] (spDigits K) := by
  refine F.ok scDigits (fun vs H Q E h => ?_) (fun cdv A outer s H vs Q E hr h => ?_)
  · obtain ⟨a, ns, i, j, rfl, _⟩ := h
    rfl
  obtain ⟨a, ns, i0, j0, rfl, hS, hi0, hj0, q⟩ := h
  have nd := scDigits.nd
  refine ⟨_, (pss_cons (ps_set (i := 3) nd rfl (.inl rfl) (pe_lst pa_nil))
  (pss_cons (ps_for PassesOwn.never rfl (pi_range2 (by rfl) m_range (pa_cons (pv 1) (pa_cons (pv 2) pa_nil))) (pg_name (i := 4) nd rfl (.inl rfl))
  (pss_cons (ps_set (i := 5) nd rfl (.inl rfl) (pe_call GC hr rfl mC kC bC .nil pass0 (pa_cons (pv 0) (pa_cons (pv 4) pa_nil))))
  (pss_cut (ps_if (pt_cmpR op_lt (pv 5) pe_int (nomark _))
  (pss_one (ps_set (i := 5) nd rfl (.inl rfl) (pe_op op_sub pe_int (pe_op op_mul pe_int (pv 5)))))
  pss_nil)
  (pss_one (ps_if (pt_cmpR op_ge (pv 5) (pe_op op_pow pe_int pe_int) (nomark _))
  (pss_one (ps_for PassesOwn.never rfl (pi_range1 (by rfl) m_range (pa_cons pe_int pa_nil)) (pg_name (i := 6) nd rfl (.inl rfl))
  (pss_one (ps_if (pt_cmpR op_gt (pv 5) pe_int (nomark _))
  (pss_cons (ps_expr (pe_bm PySem.F.plainAttrs_list PySem.F.slot_list_append PySem.F.type_list_append mt_append (pv 3) (pa_cons (pe_op op_mod (pe_callTy call_int1 (by rfl) m_int bo_int (pa_cons (pv 5) pa_nil)) pe_int) pa_nil)))
  (pss_one (ps_set (i := 5) nd rfl (.inl rfl) (pe_op op_fdiv (pv 5) pe_int))))
  pss_nil))))
  (pss_cons (ps_set (i := 7) nd rfl (.inl rfl) (pe_op op_mod (pe_callTy call_int1 (by rfl) m_int bo_int (pa_cons (pe_op op_add (pe_op op_add (pe_op op_mul (pv 5) pe_int) (pe_op op_mul (pv 4) pe_int)) pe_int) pa_nil)) pe_int))
  (pss_one (ps_for PassesOwn.never rfl (pi_range1 (by rfl) m_range (pa_cons pe_int pa_nil)) (pg_name (i := 6) nd rfl (.inl rfl))
  (pss_cons (ps_set (i := 7) nd rfl (.inl rfl) (pe_op op_mod (pe_callTy call_int1 (by rfl) m_int bo_int (pa_cons (pe_op op_add (pe_op op_add (pe_op op_mul (pv 7) pe_int) (pe_op op_mul pe_int (pv 6))) pe_int) pa_nil)) pe_int))
  (pss_one (ps_expr (pe_bm PySem.F.plainAttrs_list PySem.F.slot_list_append PySem.F.type_list_append mt_append (pv 3) (pa_cons (pe_op op_mod (pe_callTy call_int1 (by rfl) m_int bo_int (pa_cons (pe_op op_fdiv (pv 7) pe_int) pa_nil)) pe_int) pa_nil)))))))))))))
  (pss_one (ps_ret (pv 3))))), ?_⟩
  refine ⟨Nat.zero_le _, fun p hp => ?_⟩
  refine ⟨_, rfl, _, rfl, (i0 : Int), (j0 : Int), rfl, ⟨by omega, by omega, by omega, by omega⟩, for_range (lo := (i0 : Int)) (n := ((j0 : Int) - (i0 : Int)).toNat)
    (fun i σ H1 => ∃ (x4 x5 x6 x7 : Option V) (ds : List Int), σ = [some (.ref a), some (.int (i0 : Int)), some (.int (j0 : Int)), some (.ref p), x4, x5, x6, x7] ∧ Oth [] H H1 ∧ H1 p = some (.lst (ds.map V.int)) ∧ ds.length ≤ 60 * i)
    ⟨none, none, none, none, [], rfl, Oth.new hp, upd_same, Nat.zero_le _⟩ (fun i σ H1 hi hW => ?_) (fun σ H1 hW => ?_)⟩
  · obtain ⟨x4, x5, x6, x7, ds, rfl, o1, hp1, hds⟩ := hW
    have hi2 : i < 100 := by omega
    refine ⟨_, rfl, _, rfl, a, ns, i0 + i, rfl, o1.sqL (by simp) hS, fun x => ?_⟩
    refine ⟨fun σ2 H2 => H2 = H1 ∧ ∃ c : Int, 0 ≤ c ∧ σ2 = [some (.ref a), some (.int (i0 : Int)), some (.int (j0 : Int)), some (.ref p), some (.int ((i0 : Int) + (i : Int))), some (.int c), x6, x7], ?_, ?_⟩
    · refine ⟨_, rfl, _, _, rfl, rfl, _, rfl, ite2 (fun c => ?_) (fun c => ?_)⟩
      · have c' : x < 0 := of_decide_eq_true c
        exact ⟨_, rfl, _, _, rfl, rfl, .inl ⟨by decide, by decide⟩, _, _, rfl, rfl, rfl, _, by omega, rfl⟩
      · have c' : ¬ x < 0 := of_decide_eq_false (Bool.eq_false_iff.mpr c)
        exact ⟨rfl, x, by omega, rfl⟩
    · rintro σ2 H2 ⟨rfl, c, hc, rfl⟩
      refine ⟨_, rfl, _, _, rfl, rfl, ⟨by decide, by decide, by decide⟩, _, _, rfl, rfl, _, rfl, ite2 (fun y => ?_) (fun y => ?_)⟩
      · refine ⟨60, rfl, by decide, by decide, for_range (lo := 0) (n := 60)
          (fun j σ H3 => ∃ (x6 : Option V) (c : Int) (ds : List Int), σ = [some (.ref a), some (.int (i0 : Int)), some (.int (j0 : Int)), some (.ref p), some (.int ((i0 : Int) + (i : Int))), some (.int c), x6, x7] ∧ Oth [] H H3 ∧ H3 p = some (.lst (ds.map V.int)) ∧ ds.length ≤ 60 * i + j)
          ⟨x6, c, ds, rfl, o1, hp1, by omega⟩ (fun j σ H3 hj hW => ?_) (fun σ H3 hW => ?_)⟩
        · obtain ⟨x6, c, ds, rfl, o3, hp3, hd3⟩ := hW
          refine ⟨_, rfl, _, _, rfl, rfl, _, rfl, ite2 (fun y => ?_) (fun y => ?_)⟩
          · have hs : (ds.map V.int).length < sizeLine := by rw [List.length_map]; exact Nat.lt_of_le_of_lt (by omega : ds.length ≤ 100000) (by decide)
            refine ⟨_, rfl, .inl ⟨rfl, _, SqL.of hp3⟩, _, rfl, .inl ⟨_, rfl, _, _, rfl, rfl, (by show (0 : Int) < 1000; decide), p, _, _, rfl, rfl, hp3, hs, ?_⟩⟩
            refine ⟨_, rfl, _, _, rfl, rfl, ⟨by decide, by decide⟩, _, _, ds ++ [c % 1000], rfl, (((o3.mono (S' := [p]) (by simp)).trans (Oth.put (by simp) hp3)).drop hp), ?_, ?_⟩
            · rw [upd_same, List.map_append]; rfl
            · rw [List.length_append]; simp; omega
          · exact ⟨_, c, ds, rfl, o3, hp3, by omega⟩
        · obtain ⟨x6, c, ds, rfl, o3, hp3, hd3⟩ := hW
          exact ⟨_, _, _, _, ds, rfl, o3, hp3, by omega⟩
      · have y' : c < 10 ^ 18 := Int.not_le.mp fun z => y (decide_eq_true z)
        have y2 : c < 1000000000000000000 := Int.lt_of_lt_of_le y' (by decide)
        refine ⟨_, rfl, _, _, rfl, rfl, .inl ⟨by omega, by omega⟩, _, rfl, _, _, rfl, rfl, .inl ⟨by omega, by omega⟩, _, _, rfl, rfl, _, _, rfl, rfl, .inl ⟨_, rfl, _, _, rfl, rfl, (by show (0 : Int) < 2147483647; decide), ?_⟩⟩
        have s0 : 0 ≤ (c * 48271 + ((i0 : Int) + (i : Int)) * 69621 + 11) % 2147483647 := Int.emod_nonneg _ (by decide)
        have s1 : (c * 48271 + ((i0 : Int) + (i : Int)) * 69621 + 11) % 2147483647 < 2147483647 := Int.emod_lt_of_pos _ (by decide)
        refine ⟨12, rfl, by decide, by decide, for_range (lo := 0) (n := 12)
          (fun j σ H3 => ∃ (x6 : Option V) (s : Int) (ds : List Int), σ = [some (.ref a), some (.int (i0 : Int)), some (.int (j0 : Int)), some (.ref p), some (.int ((i0 : Int) + (i : Int))), some (.int c), x6, some (.int s)] ∧ 0 ≤ s ∧ s < 2147483647 ∧ Oth [] H H3 ∧ H3 p = some (.lst (ds.map V.int)) ∧ ds.length ≤ 60 * i + j)
          ⟨x6, _, ds, rfl, s0, s1, o1, hp1, by omega⟩ (fun j σ H3 hj hW => ?_) (fun σ H3 hW => ?_)⟩
        · obtain ⟨x6, s', ds, rfl, t0, t1, o3, hp3, hd3⟩ := hW
          have hs : (ds.map V.int).length < sizeLine := by rw [List.length_map]; exact Nat.lt_of_le_of_lt (by omega : ds.length ≤ 100000) (by decide)
          refine ⟨_, rfl, _, _, rfl, rfl, .inl ⟨by omega, by omega⟩, _, rfl, _, _, rfl, rfl, .inl ⟨by decide, by decide⟩, _, _, rfl, rfl, _, _, rfl, rfl, .inl ⟨_, rfl, _, _, rfl, rfl, (by show (0 : Int) < 2147483647; decide), ?_⟩⟩
          refine ⟨_, rfl, .inl ⟨rfl, _, SqL.of hp3⟩, _, rfl, _, _, rfl, rfl, ⟨by decide, by decide⟩, .inl ⟨_, rfl, _, _, rfl, rfl, (by show (0 : Int) < 1000; decide), p, _, _, rfl, rfl, hp3, hs, ?_⟩⟩
          refine ⟨_, _, ds ++ [((s' * 16807 + 7 * (0 + (j : Int)) + 1) % 2147483647 / 997) % 1000], rfl, Int.emod_nonneg _ (by decide), Int.emod_lt_of_pos _ (by decide), (((o3.mono (S' := [p]) (by simp)).trans (Oth.put (by simp) hp3)).drop hp), ?_, ?_⟩
          · rw [upd_same, List.map_append]; rfl
          · rw [List.length_append]; simp; omega
        · obtain ⟨x6, s', ds, rfl, t0, t1, o3, hp3, hd3⟩ := hW
          exact ⟨_, _, _, _, ds, rfl, o3, hp3, by omega⟩
  · obtain ⟨x4, x5, x6, x7, ds, rfl, o1, hp1, hds⟩ := hW
    exact ⟨_, rfl, q p H1 ds hp o1 hp1⟩
end
abbrev sSame : Stmt := topS 41
theorem scSame : FnScope ["actual", "expected", "k"] ["actual", "expected"] (defScope sSame) := ⟨rfl, rfl, rfl, by decide +kernel, rfl, by decide +kernel, by decide +kernel⟩
section
variable {P : Program} {w : World} {K : PySem.W.Frag} {mg : Str → Option Value} {base : Heap}
theorem ok_same {f : Addr} {fd : FuncData} {k n : Nat} (F : Fun K "_law_same" "_law_same" sSame f fd)
    (GS : FnOk P w K mg base CX0 k f fd ["actual", "expected"] (spSame n)) (bS : Binds K fd ["actual", "expected"] []) (kS : PySem.W.keepIn K (.ref f) = true) (mS : mg "_law_same" = some (.ref f))
    (m_isinstance : mg "isinstance" = none) (m_tuple : mg "tuple" = none) (m_len : mg "len" = none) (m_range : mg "range" = none) (m_bool : mg "bool" = none) (m_int : mg "int" = none) (m_str : mg "str" = none) :
    FnOk P w K mg base CX0 (k + 1) f fd ["actual", "expected"] (spSame (n + 1)) := by
  refine F.ok scSame (fun vs H Q E h => ?_) (fun cdv A outer s H vs Q E hr h => ?_)
  · obtain ⟨t, v, u, rfl, _⟩ := h
    rfl
  obtain ⟨t, v, u, rfl, hv, hu, hd, q⟩ := h
  have nd := scSame.nd
  refine ⟨_, (pss_cons (ps_if (pt_val (pe_callB call_isi (by rfl) m_isinstance bo_isi (pa_cons (pv 1) (pa_cons (pe_bltn (v := .ty "tuple") (by rfl) m_tuple bo_tuple rfl) pa_nil))))
  (pss_cons (ps_if (PW.pt (pw_or (pt_not (pt_val (pe_callB call_isi (by rfl) m_isinstance bo_isi (pa_cons (pv 0) (pa_cons (pe_bltn (v := .ty "tuple") (by rfl) m_tuple bo_tuple rfl) pa_nil))))) (pw_or1 (pt_cmpR op_ne (pe_callB call_len_seq (by rfl) m_len PySem.boot_len (pa_cons (pv 0) pa_nil)) (pe_callB call_len_seq (by rfl) m_len PySem.boot_len (pa_cons (pv 1) pa_nil)) (nomark _)))))
  (pss_one (ps_ret pe_bl))
  pss_nil)
  (pss_cons (ps_for PassesOwn.never rfl (pi_range1 (by rfl) m_range (pa_cons (pe_callB call_len_seq (by rfl) m_len PySem.boot_len (pa_cons (pv 1) pa_nil)) pa_nil)) (pg_name (i := 2) nd rfl (.inl rfl))
  (pss_one (ps_if (pt_not (pt_val (pe_call GS hr rfl mS kS bS .nil pass0 (pa_cons (pe_ix ix_tup (pv 0) (pv 2) (fun _ _ => rfl)) (pa_cons (pe_ix ix_tup (pv 1) (pv 2) (fun _ _ => rfl)) pa_nil)))))
  (pss_one (ps_ret pe_bl))
  pss_nil)))
  (pss_one (ps_ret pe_bl))))
  pss_nil)
  (pss_cons (ps_if (pt_cmpR op_isN (pv 1) pe_non (nomark _))
  (pss_one (ps_ret (pe_cmpR op_isN (pv 0) pe_non (nomark _))))
  pss_nil)
  (pss_cons (ps_if (pt_val (pe_callB call_isi (by rfl) m_isinstance bo_isi (pa_cons (pv 1) (pa_cons (pe_bltn (v := .ty "bool") (by rfl) m_bool bo_bool rfl) pa_nil))))
  (pss_one (ps_ret (pe_and (pe_callB call_isi (by rfl) m_isinstance bo_isi (pa_cons (pv 0) (pa_cons (pe_bltn (v := .ty "bool") (by rfl) m_bool bo_bool rfl) pa_nil))) (pe_one (pe_cmpR op_eq (pv 0) (pv 1) (nomark _))))))
  pss_nil)
  (pss_cons (ps_if (pt_val (pe_callB call_isi (by rfl) m_isinstance bo_isi (pa_cons (pv 1) (pa_cons (pe_bltn (v := .ty "int") (by rfl) m_int bo_int rfl) pa_nil))))
  (pss_one (ps_ret (pe_and (pe_callB call_isi (by rfl) m_isinstance bo_isi (pa_cons (pv 0) (pa_cons (pe_bltn (v := .ty "int") (by rfl) m_int bo_int rfl) pa_nil))) (pe_and (pe_not (pe_callB call_isi (by rfl) m_isinstance bo_isi (pa_cons (pv 0) (pa_cons (pe_bltn (v := .ty "bool") (by rfl) m_bool bo_bool rfl) pa_nil)))) (pe_one (pe_cmpR op_eq (pv 0) (pv 1) (nomark _)))))))
  pss_nil)
  (pss_one (ps_ret (pe_and (pe_callB call_isi (by rfl) m_isinstance bo_isi (pa_cons (pv 0) (pa_cons (pe_bltn (v := .ty "str") (by rfl) m_str bo_str rfl) pa_nil))) (pe_one (pe_cmpR op_eq (pv 0) (pv 1) (nomark _)))))))))), ?_⟩
  cases hd with
  | non _ =>
    obtain rfl := hv.of_non
    obtain rfl := hu.of_non
    refine ⟨_, rfl, _, _, _, _, false, rfl, .ty "tuple", hu.ty, kit_ty kb_NoneType_tuple, _, rfl, iteF ?_⟩
    refine ⟨_, rfl, rfl, _, rfl, iteT ⟨_, rfl, rfl, ?_⟩⟩
    exact q
  | int _ i =>
    obtain rfl := hv.of_int
    obtain rfl := hu.of_int
    refine ⟨_, rfl, _, _, _, _, false, rfl, .ty "tuple", hu.ty, kit_ty kb_int_tuple, _, rfl, iteF ?_⟩
    refine ⟨_, rfl, rfl, _, rfl, iteF ?_⟩
    refine ⟨_, rfl, _, _, _, _, false, rfl, .ty "bool", hu.ty, kit_ty kb_int_bool, _, rfl, iteF ?_⟩
    refine ⟨_, rfl, _, _, _, _, true, rfl, .ty "int", hu.ty, kit_ty kb_int_int, _, rfl, iteT ?_⟩
    refine ⟨_, rfl, _, _, _, _, true, rfl, .ty "int", hu.ty, kit_ty kb_int_int, _, rfl, iteT ?_⟩
    refine ⟨_, rfl, _, _, _, _, false, rfl, .ty "bool", hu.ty, kit_ty kb_int_bool, _, rfl, _, rfl, iteT ?_⟩
    refine ⟨_, rfl, _, rfl, rfl, ?_⟩
    rw [decide_eq_true rfl]
    exact q
  | str _ x =>
    obtain rfl := hv.of_str
    obtain rfl := hu.of_str
    refine ⟨_, rfl, _, _, _, _, false, rfl, .ty "tuple", hu.ty, kit_ty kb_str_tuple, _, rfl, iteF ?_⟩
    refine ⟨_, rfl, rfl, _, rfl, iteF ?_⟩
    refine ⟨_, rfl, _, _, _, _, false, rfl, .ty "bool", hu.ty, kit_ty kb_str_bool, _, rfl, iteF ?_⟩
    refine ⟨_, rfl, _, _, _, _, false, rfl, .ty "int", hu.ty, kit_ty kb_str_int, _, rfl, iteF ?_⟩
    refine ⟨_, rfl, _, _, _, _, true, rfl, .ty "str", hu.ty, kit_ty kb_str_str, _, rfl, iteT ?_⟩
    refine ⟨_, rfl, _, rfl, rfl, ?_⟩
    rw [decide_eq_true rfl]
    exact q
  | tup _ ts hz hts =>
    obtain ⟨a, xs, rfl, ea, pa⟩ := hv.inv
    obtain ⟨b, ys, rfl, eb, pb⟩ := hu.inv
    have la := (paired_get pa).1
    have lb := (paired_get pb).1
    refine ⟨_, rfl, _, _, _, _, true, rfl, .ty "tuple", hu.ty, kit_ty kb_tuple_tuple, _, rfl, iteT ?_⟩
    refine ⟨_, rfl, _, _, _, _, true, rfl, .ty "tuple", hv.ty, kit_ty kb_tuple_tuple, _, rfl, iteF ?_⟩
    refine ⟨_, rfl, a, _, rfl, .inr (SqT.of ea), _, rfl, b, _, rfl, .inr (SqT.of eb), rfl, _, rfl, ?_⟩
    rw [la, lb, decide_eq_true rfl]
    refine iteF ?_
    refine ⟨_, rfl, b, _, rfl, .inr (SqT.of eb), _, rfl, by omega, by omega, for_range (lo := 0) (n := ((ys.length : Nat) : Int).toNat)
      (fun i σ H1 => H1 = H ∧ ∃ x2 : Option V, σ = [some (.ref a), some (.ref b), x2]) ⟨rfl, none, rfl⟩ (fun i σ H1 hi hW => ?_) (fun σ H1 hW => ?_)⟩
    · obtain ⟨rfl, x2, rfl⟩ := hW
      have hi1 : i < ts.length := by omega
      have ga : xs[i]? = some xs[i] := List.getElem?_eq_getElem (by omega)
      have gb : ys[i]? = some ys[i] := List.getElem?_eq_getElem (by omega)
      have gt : ts[i]? = some ts[i] := List.getElem?_eq_getElem hi1
      refine ⟨_, rfl, _, rfl, a, _, (i : Int), _, rfl, by rw [Int.zero_add], SqT.of ea, atI_nat ga, _, rfl, _, rfl, b, _, (i : Int), _, rfl, by rw [Int.zero_add], SqT.of eb, atI_nat gb, ?_⟩
      refine ⟨ts[i], _, _, rfl, (paired_get pa).2 i _ _ gt ga, (paired_get pb).2 i _ _ gt gb, hts _ (List.getElem_mem hi1), _, rfl, ?_⟩
      exact iteF ⟨rfl, _, rfl⟩
    · obtain ⟨rfl, x2, rfl⟩ := hW
      exact q
end
abbrev sValue : Stmt := topS 12
abbrev sThere : Stmt := topS 13
abbrev sItem : Stmt := topS 14
theorem scThere : FnScope ["row", "at"] ["row", "at"] (defScope sThere) := ⟨rfl, rfl, rfl, by decide +kernel, rfl, by decide +kernel, by decide +kernel⟩
theorem scItem : FnScope ["row", "at"] ["row", "at"] (defScope sItem) := ⟨rfl, rfl, rfl, by decide +kernel, rfl, by decide +kernel, by decide +kernel⟩
theorem scValue : FnScope ["expression", "scope", "looked", "_", "cells", "props", "store", "index", "number", "at", "left", "right", "condition", "chosen", "other"] ["expression", "scope", "looked"] (defScope sValue) := ⟨rfl, rfl, rfl, by decide +kernel, rfl, by decide +kernel, by decide +kernel⟩
section
variable {P : Program} {w : World} {K : PySem.W.Frag} {mg : Str → Option Value} {base : Heap}
theorem ok_there {f : Addr} {fd : FuncData} {k : Nat} (F : Fun K "_is_there" "_is_there" sThere f fd) (ml : mg "len" = none) : FnOk P w K mg base CX0 (k + 1) f fd ["row", "at"] (spThere K) := by
  refine F.ok scThere (fun vs H Q E h => ?_) (fun cdv A outer s H vs Q E hr h => ?_)
  · obtain ⟨a, xs, i, rfl, _⟩ := h
    rfl
  obtain ⟨a, xs, i, rfl, hS, q⟩ := h
  refine ⟨_, pss_one (ps_ret (pe_chain op_le op_lt pe_int (pv 1) (pe_callB call_len_seq rfl ml PySem.boot_len (pa_cons (pv 0) pa_nil)))), ?_⟩
  refine ⟨_, rfl, _, _, rfl, rfl, _, rfl, ?_⟩
  rw [decide_eq_true (by omega : (0 : Int) ≤ (i : Int))]
  refine iteT ⟨_, rfl, a, _, rfl, .inr hS, _, _, rfl, rfl, ?_⟩
  have e : decide ((i : Int) < (((xs.map V.int).length : Nat) : Int)) = decide (i < xs.length) := by
    rw [List.length_map]
    exact decide_eq_decide.mpr (by omega)
  rw [← e] at q
  exact q
theorem ok_item {f g : Addr} {fd gd : FuncData} {k : Nat} (F : Fun K "_item" "_item" sItem f fd) (G : FnOk P w K mg base CX0 k g gd ["row", "at"] (spThere K)) (bG : Binds K gd ["row", "at"] []) (kG : PySem.W.keepIn K (.ref g) = true) (mG : mg "_is_there" = some (.ref g)) :
    FnOk P w K mg base CX0 (k + 1) f fd ["row", "at"] (spItem K) := by
  refine F.ok scItem (fun vs H Q E h => ?_) (fun cdv A outer s H vs Q E hr h => ?_)
  · obtain ⟨a, xs, i, rfl, _⟩ := h
    rfl
  obtain ⟨a, xs, i, rfl, hS, q⟩ := h
  refine ⟨_, pss_one (ps_ret (pe_ifExp (pt_val (pe_call G hr rfl mG kG bG .nil pass0 (pa_cons (pv 0) (pa_cons (pv 1) pa_nil)))) (pe_ix ix_tup (pv 0) (pv 1) (fun _ _ => rfl)) pe_int)), ?_⟩
  refine ⟨_, rfl, _, rfl, a, xs, i, rfl, hS, _, rfl, ?_⟩
  refine ite2 (fun c => ?_) (fun c => ?_)
  · have c' : i < xs.length := of_decide_eq_true c
    exact ⟨_, rfl, _, rfl, a, _, _, _, rfl, rfl, hS, atI_nat (getD_of c'), q⟩
  · have c' : ¬ i < xs.length := of_decide_eq_false (Bool.eq_false_iff.mpr c)
    rw [getD_out c'] at q
    exact q
theorem ok_value {f g t : Addr} {fd gd td : FuncData} {k n : Nat} {tv : Tok} (F : Fun K "value" "value" sValue f fd)
    (S : FnOk P w K mg base CX0 k f fd ["expression", "scope", "looked"] (spValue n)) (bS : Binds K fd ["expression", "scope", "looked"] []) (kS : PySem.W.keepIn K (.ref f) = true) (mS : mg "value" = some (.ref f))
    (G : FnOk P w K mg base CX0 k g gd ["row", "at"] (spItem K)) (bG : Binds K gd ["row", "at"] []) (kG : PySem.W.keepIn K (.ref g) = true) (mG : mg "_item" = some (.ref g))
    (T : FnOk P w K mg base CX0 k t td ["row", "at"] (spThere K)) (bT : Binds K td ["row", "at"] []) (kT : PySem.W.keepIn K (.ref t) = true) (mT : mg "_is_there" = some (.ref t)) (mV : mg "VALUES" = some (.int 1000 tv)) :
    FnOk P w K mg base CX0 (k + 1) f fd ["expression", "scope", "looked"] (spValue (n + 1)) := by
  refine F.ok scValue (fun vs H Q E' h => ?_) (fun cdv A outer s H vs Q E' hr h => ?_)
  · obtain ⟨e, c, ve, vc, l, L, rfl, _⟩ := h
    rfl
  obtain ⟨e, c, ve, vc, l, L, rfl, he, hc, hL, hd, hz, q⟩ := h
  have nd := scValue.nd
  refine ⟨_, pss_cons (ps_asg (pv 1) (pg_tup rfl (pgs_cons (pg_name (i := 3) nd rfl (.inl rfl)) (pgs_cons (pg_name (i := 4) nd rfl (.inl rfl)) (pgs_cons (pg_name (i := 5) nd rfl (.inl rfl))
      (pgs_cons (pg_name (i := 6) nd rfl (.inl rfl)) (pgs_cons (pg_name (i := 7) nd rfl (.inl rfl)) pgs_nil)))))))
    (pss_one (ps_match (pv 0)
      (pcs_cons nd (pp_seq rfl (pps_cons' pp_str (pps_cons' (pp_name 8) pps_nil'))) (pss_one (ps_ret (pv 8)))
      (pcs_cons nd (pp_seq rfl (pps_cons' pp_str (pps_cons' (pp_name 9) pps_nil'))) (pss_one (ps_ret (pe_call G hr rfl mG kG bG .nil pass0 (pa_cons (pv 4) (pa_cons (pv 9) pa_nil)))))
      (pcs_cons nd (pp_seq rfl (pps_cons' pp_str (pps_cons' (pp_name 9) pps_nil'))) (pss_one (ps_ret (pe_call G hr rfl mG kG bG .nil pass0 (pa_cons (pv 5) (pa_cons (pv 9) pa_nil)))))
      (pcs_cons nd (pp_seq rfl (pps_cons' pp_str (pps_cons' (pp_name 9) pps_nil'))) (pss_cons (ps_if (pt_val (pe_call T hr rfl mT kT bT .nil pass0 (pa_cons (pv 6) (pa_cons (pv 9) pa_nil))))
          (pss_one (ps_expr (pe_bm PySem.F.plainAttrs_list PySem.F.slot_list_append PySem.F.type_list_append mt_append (pv 2) (pa_cons (pv 9) pa_nil)))) pss_nil)
        (pss_one (ps_ret (pe_call G hr rfl mG kG bG .nil pass0 (pa_cons (pv 6) (pa_cons (pv 9) pa_nil))))))
      (pcs_cons nd (pp_seq rfl (pps_cons' pp_str pps_nil')) (pss_one (ps_ret (pv 7)))
      (pcs_cons nd (pp_seq rfl (pps_cons' pp_str (pps_cons' (pp_name 10) (pps_cons' (pp_name 11) pps_nil'))))
        (pss_one (ps_ret (pe_op op_mod (pe_op op_add (pe_call S hr rfl mS kS bS .nil pass0 (pa_cons (pv 10) (pa_cons (pv 1) (pa_cons (pv 2) pa_nil)))) (pe_call S hr rfl mS kS bS .nil pass0 (pa_cons (pv 11) (pa_cons (pv 1) (pa_cons (pv 2) pa_nil))))) (pe_glob (v := .int 1000) rfl mV ⟨tv, rfl⟩))))
      (pcs_cons nd (pp_seq rfl (pps_cons' pp_str (pps_cons' (pp_name 10) (pps_cons' (pp_name 11) pps_nil'))))
        (pss_one (ps_ret (pe_op op_mod (pe_op op_sub (pe_call S hr rfl mS kS bS .nil pass0 (pa_cons (pv 10) (pa_cons (pv 1) (pa_cons (pv 2) pa_nil)))) (pe_call S hr rfl mS kS bS .nil pass0 (pa_cons (pv 11) (pa_cons (pv 1) (pa_cons (pv 2) pa_nil))))) (pe_glob (v := .int 1000) rfl mV ⟨tv, rfl⟩))))
      (pcs_cons nd (pp_seq rfl (pps_cons' pp_str (pps_cons' (pp_name 10) (pps_cons' (pp_name 11) pps_nil'))))
        (pss_one (ps_ret (pe_ifExp (pt_cmpR op_eq (pe_call S hr rfl mS kS bS .nil pass0 (pa_cons (pv 10) (pa_cons (pv 1) (pa_cons (pv 2) pa_nil)))) (pe_call S hr rfl mS kS bS .nil pass0 (pa_cons (pv 11) (pa_cons (pv 1) (pa_cons (pv 2) pa_nil)))) (nomark _)) pe_int pe_int)))
      (pcs_cons nd (pp_seq rfl (pps_cons' pp_str (pps_cons' (pp_name 10) (pps_cons' (pp_name 11) pps_nil'))))
        (pss_one (ps_ret (pe_ifExp (pt_cmpR op_lt (pe_call S hr rfl mS kS bS .nil pass0 (pa_cons (pv 10) (pa_cons (pv 1) (pa_cons (pv 2) pa_nil)))) (pe_call S hr rfl mS kS bS .nil pass0 (pa_cons (pv 11) (pa_cons (pv 1) (pa_cons (pv 2) pa_nil)))) (nomark _)) pe_int pe_int)))
      (pcs_cons nd (pp_seq rfl (pps_cons' pp_str (pps_cons' (pp_name 12) (pps_cons' (pp_name 13) (pps_cons' (pp_name 14) pps_nil')))))
        (pss_cons (ps_if (pt_cmpR op_ne (pe_call S hr rfl mS kS bS .nil pass0 (pa_cons (pv 12) (pa_cons (pv 1) (pa_cons (pv 2) pa_nil)))) pe_int (nomark _))
            (pss_one (ps_ret (pe_call S hr rfl mS kS bS .nil pass0 (pa_cons (pv 13) (pa_cons (pv 1) (pa_cons (pv 2) pa_nil)))))) pss_nil)
          (pss_one (ps_ret (pe_call S hr rfl mS kS bS .nil pass0 (pa_cons (pv 14) (pa_cons (pv 1) (pa_cons (pv 2) pa_nil)))))))
      pcs_nil))))))))))))
    , ?_⟩
  -- the scope taken apart
  obtain ⟨sc, _, v1, v2, v3, _, rfl, hsc, r0, r1, r2, r3, r4⟩ := IsT.inv5 hc
  obtain rfl := r0.of_str
  obtain rfl := r4.of_int
  obtain ⟨ac, rfl, hac⟩ := r1.ints
  obtain ⟨ap, rfl, hap⟩ := r2.ints
  obtain ⟨as, rfl, has⟩ := r3.ints
  refine ⟨_, rfl, sc, _, rfl, SqT.of hsc, rfl, _, _, rfl, _, _, rfl, _, _, rfl, _, _, rfl, _, _, rfl, rfl, ?_⟩
  cases e with
  | num m =>
    obtain ⟨a, _, _, rfl, ha, p0, p1⟩ := IsT.inv2 he
    obtain rfl := p0.of_str
    obtain rfl := p1.of_int
    refine ⟨_, rfl, case_hit (SqT.of ha) rfl ⟨_, _, rfl, _, rfl, ?_⟩⟩
    exact q H (by simpa [E.looks] using hL) Oth.refl
  | cell m =>
    obtain ⟨a, _, _, rfl, ha, p0, p1⟩ := IsT.inv2 he
    obtain rfl := p0.of_str
    obtain rfl := p1.of_int
    refine ⟨_, rfl, case_skip (SqT.of ha) (by decide) (case_hit (SqT.of ha) rfl ⟨_, _, rfl, _, rfl, _, rfl, _, c.cells, m, rfl, SqT.of hac, ?_⟩)⟩
    exact q H (by simpa [E.looks] using hL) Oth.refl
  | prop m =>
    obtain ⟨a, _, _, rfl, ha, p0, p1⟩ := IsT.inv2 he
    obtain rfl := p0.of_str
    obtain rfl := p1.of_int
    refine ⟨_, rfl, case_skip (SqT.of ha) (by decide) (case_skip (SqT.of ha) (by decide) (case_hit (SqT.of ha) rfl ⟨_, _, rfl, _, rfl, _, rfl, _, c.props, m, rfl, SqT.of hap, ?_⟩))⟩
    exact q H (by simpa [E.looks] using hL) Oth.refl
  | store m =>
    obtain ⟨a, _, _, rfl, ha, p0, p1⟩ := IsT.inv2 he
    obtain rfl := p0.of_str
    obtain rfl := p1.of_int
    refine ⟨_, rfl, case_skip (SqT.of ha) (by decide) (case_skip (SqT.of ha) (by decide) (case_skip (SqT.of ha) (by decide) (case_hit (SqT.of ha) rfl ⟨_, _, rfl, _, rfl, _, rfl, _, c.store, m, rfl, SqT.of has, _, rfl, ?_⟩)))⟩
    refine ite2 (fun y => ?_) (fun y => ?_)
    · have y' : m < c.store.length := of_decide_eq_true y
      have hs : L.length < sizeLine := Nat.lt_of_le_of_lt (by omega : L.length ≤ 100000) (by decide)
      refine ⟨_, rfl, .inl ⟨rfl, _, SqL.of hL⟩, _, rfl, l, _, _, rfl, rfl, hL, hs, ?_⟩
      have o1 : Oth [l] H (upd H l (.lst (L ++ [.int (m : Int)]))) := Oth.put (by simp) hL
      refine ⟨_, rfl, _, rfl, _, c.store, m, rfl, o1.sqT has, ?_⟩
      exact q _ (by rw [upd_same, E.looks, if_pos y']; rfl) o1
    · have y' : ¬ m < c.store.length := of_decide_eq_false (Bool.eq_false_iff.mpr y)
      refine ⟨_, rfl, _, rfl, _, c.store, m, rfl, SqT.of has, ?_⟩
      exact q H (by rw [E.looks, if_neg y']; simpa using hL) Oth.refl
  | index =>
    obtain ⟨a, _, rfl, ha, p0⟩ := IsT.inv1 he
    obtain rfl := p0.of_str
    refine ⟨_, rfl, case_skip (SqT.of ha) (by decide) (case_skip (SqT.of ha) (by decide) (case_skip (SqT.of ha) (by decide) (case_skip (SqT.of ha) (by decide) (case_hit (SqT.of ha) rfl ⟨_, rfl, ?_⟩))))⟩
    exact q H (by simpa [E.looks] using hL) Oth.refl
  | plus e1 e2 =>
    obtain ⟨a, _, v1, v2, rfl, ha, p0, p1, p2⟩ := IsT.inv3 he
    obtain rfl := p0.of_str
    have z1 := E.size_pos e1
    have z2 := E.size_pos e2
    have z3 := E.looks_le c e1
    simp only [E.depth, E.size] at hd hz
    refine ⟨_, rfl, case_skip (SqT.of ha) (by decide) (case_skip (SqT.of ha) (by decide) (case_skip (SqT.of ha) (by decide) (case_skip (SqT.of ha) (by decide) (case_skip (SqT.of ha) (by decide) (case_hit (SqT.of ha) rfl ⟨_, _, rfl, _, _, rfl, _, rfl, _, rfl, _, rfl, e1, c, _, _, l, L, rfl, p1, hc, hL, by omega, by omega, fun H1 hL1 o1 => ?_⟩)))))⟩
    refine ⟨_, rfl, _, rfl, _, rfl, e2, c, _, _, l, _, rfl, p2.oth o1, hc.oth o1, hL1, by omega, by simp only [List.length_append, List.length_map]; omega, fun H2 hL2 o2 => ?_⟩
    have fin : H2 l = some (.lst (L ++ (e1.looks c ++ e2.looks c).map V.int)) := by rw [hL2, List.map_append, List.append_assoc]
    refine ⟨_, _, rfl, rfl, _, _, rfl, rfl, (by show (0 : Int) < 1000; decide), ?_⟩
    exact q H2 fin (o1.trans o2)
  | minus e1 e2 =>
    obtain ⟨a, _, v1, v2, rfl, ha, p0, p1, p2⟩ := IsT.inv3 he
    obtain rfl := p0.of_str
    have z1 := E.size_pos e1
    have z2 := E.size_pos e2
    have z3 := E.looks_le c e1
    simp only [E.depth, E.size] at hd hz
    refine ⟨_, rfl, case_skip (SqT.of ha) (by decide) (case_skip (SqT.of ha) (by decide) (case_skip (SqT.of ha) (by decide) (case_skip (SqT.of ha) (by decide) (case_skip (SqT.of ha) (by decide) (case_skip (SqT.of ha) (by decide) (case_hit (SqT.of ha) rfl ⟨_, _, rfl, _, _, rfl, _, rfl, _, rfl, _, rfl, e1, c, _, _, l, L, rfl, p1, hc, hL, by omega, by omega, fun H1 hL1 o1 => ?_⟩))))))⟩
    refine ⟨_, rfl, _, rfl, _, rfl, e2, c, _, _, l, _, rfl, p2.oth o1, hc.oth o1, hL1, by omega, by simp only [List.length_append, List.length_map]; omega, fun H2 hL2 o2 => ?_⟩
    have fin : H2 l = some (.lst (L ++ (e1.looks c ++ e2.looks c).map V.int)) := by rw [hL2, List.map_append, List.append_assoc]
    refine ⟨_, _, rfl, rfl, _, _, rfl, rfl, (by show (0 : Int) < 1000; decide), ?_⟩
    exact q H2 fin (o1.trans o2)
  | same e1 e2 =>
    obtain ⟨a, _, v1, v2, rfl, ha, p0, p1, p2⟩ := IsT.inv3 he
    obtain rfl := p0.of_str
    have z1 := E.size_pos e1
    have z2 := E.size_pos e2
    have z3 := E.looks_le c e1
    simp only [E.depth, E.size] at hd hz
    refine ⟨_, rfl, case_skip (SqT.of ha) (by decide) (case_skip (SqT.of ha) (by decide) (case_skip (SqT.of ha) (by decide) (case_skip (SqT.of ha) (by decide) (case_skip (SqT.of ha) (by decide) (case_skip (SqT.of ha) (by decide) (case_skip (SqT.of ha) (by decide) (case_hit (SqT.of ha) rfl ⟨_, _, rfl, _, _, rfl, _, rfl, _, rfl, _, rfl, e1, c, _, _, l, L, rfl, p1, hc, hL, by omega, by omega, fun H1 hL1 o1 => ?_⟩)))))))⟩
    refine ⟨_, rfl, _, rfl, _, rfl, e2, c, _, _, l, _, rfl, p2.oth o1, hc.oth o1, hL1, by omega, by simp only [List.length_append, List.length_map]; omega, fun H2 hL2 o2 => ?_⟩
    have fin : H2 l = some (.lst (L ++ (e1.looks c ++ e2.looks c).map V.int)) := by rw [hL2, List.map_append, List.append_assoc]
    refine ⟨rfl, _, rfl, ite2 (fun y => ?_) (fun y => ?_)⟩
    · have y' : e1.val c = e2.val c := V.int.inj (of_decide_eq_true y)
      have q2 := q H2 fin (o1.trans o2)
      rw [E.val, if_pos y'] at q2
      exact q2
    · have y' : ¬ e1.val c = e2.val c := fun z => y (decide_eq_true (by rw [z]))
      have q2 := q H2 fin (o1.trans o2)
      rw [E.val, if_neg y'] at q2
      exact q2
  | less e1 e2 =>
    obtain ⟨a, _, v1, v2, rfl, ha, p0, p1, p2⟩ := IsT.inv3 he
    obtain rfl := p0.of_str
    have z1 := E.size_pos e1
    have z2 := E.size_pos e2
    have z3 := E.looks_le c e1
    simp only [E.depth, E.size] at hd hz
    refine ⟨_, rfl, case_skip (SqT.of ha) (by decide) (case_skip (SqT.of ha) (by decide) (case_skip (SqT.of ha) (by decide) (case_skip (SqT.of ha) (by decide) (case_skip (SqT.of ha) (by decide) (case_skip (SqT.of ha) (by decide) (case_skip (SqT.of ha) (by decide) (case_skip (SqT.of ha) (by decide) (case_hit (SqT.of ha) rfl ⟨_, _, rfl, _, _, rfl, _, rfl, _, rfl, _, rfl, e1, c, _, _, l, L, rfl, p1, hc, hL, by omega, by omega, fun H1 hL1 o1 => ?_⟩))))))))⟩
    refine ⟨_, rfl, _, rfl, _, rfl, e2, c, _, _, l, _, rfl, p2.oth o1, hc.oth o1, hL1, by omega, by simp only [List.length_append, List.length_map]; omega, fun H2 hL2 o2 => ?_⟩
    have fin : H2 l = some (.lst (L ++ (e1.looks c ++ e2.looks c).map V.int)) := by rw [hL2, List.map_append, List.append_assoc]
    refine ⟨_, _, rfl, rfl, _, rfl, ite2 (fun y => ?_) (fun y => ?_)⟩
    · have y' : e1.val c < e2.val c := of_decide_eq_true y
      have q2 := q H2 fin (o1.trans o2)
      rw [E.val, if_pos y'] at q2
      exact q2
    · have y' : ¬ e1.val c < e2.val c := fun z => y (decide_eq_true z)
      have q2 := q H2 fin (o1.trans o2)
      rw [E.val, if_neg y'] at q2
      exact q2
  | ite e0 e1 e2 =>
    obtain ⟨a, _, v0, v1, v2, rfl, ha, p0, p3, p1, p2⟩ := IsT.inv4 he
    obtain rfl := p0.of_str
    have z0 := E.size_pos e0
    have z1 := E.size_pos e1
    have z2 := E.size_pos e2
    have z3 := E.looks_le c e0
    simp only [E.depth, E.size] at hd hz
    refine ⟨_, rfl, case_skip (SqT.of ha) (by decide) (case_skip (SqT.of ha) (by decide) (case_skip (SqT.of ha) (by decide) (case_skip (SqT.of ha) (by decide) (case_skip (SqT.of ha) (by decide) (case_skip (SqT.of ha) (by decide) (case_skip (SqT.of ha) (by decide) (case_skip (SqT.of ha) (by decide) (case_skip (SqT.of ha) (by decide) (case_hit (SqT.of ha) rfl ⟨_, _, rfl, _, _, rfl, _, _, rfl, _, rfl, _, rfl, _, rfl, e0, c, _, _, l, L, rfl, p3, hc, hL, by omega, by omega, fun H1 hL1 o1 => ?_⟩)))))))))⟩
    refine ⟨rfl, _, rfl, ite2 (fun y => ?_) (fun y => ?_)⟩
    · have y' : ¬ e0.val c = 0 := fun z => by rw [z] at y; exact absurd y (by decide)
      refine ⟨_, rfl, _, rfl, _, rfl, e1, c, _, _, l, _, rfl, p1.oth o1, hc.oth o1, hL1, by omega, by simp only [List.length_append, List.length_map]; omega, fun H2 hL2 o2 => ?_⟩
      have q2 := q H2 (by rw [hL2, E.looks, if_neg y', List.map_append, List.append_assoc]) (o1.trans o2)
      rw [E.val, if_neg y'] at q2
      exact q2
    · have y' : e0.val c = 0 := Decidable.byContradiction fun z => y (by rw [decide_eq_false (fun w => z (V.int.inj w))]; rfl)
      refine ⟨_, rfl, _, rfl, _, rfl, e2, c, _, _, l, _, rfl, p2.oth o1, hc.oth o1, hL1, by omega, by simp only [List.length_append, List.length_map]; omega, fun H2 hL2 o2 => ?_⟩
      have q2 := q H2 (by rw [hL2, E.looks, if_pos y', List.map_append, List.append_assoc]) (o1.trans o2)
      rw [E.val, if_pos y'] at q2
      exact q2
end
abbrev sLawValue : Stmt := topS 49
theorem scLawValue : FnScope ["e", "scope", "looked", "row", "one", "two"] ["e", "scope", "looked"] (defScope sLawValue) := ⟨rfl, rfl, rfl, by decide +kernel, rfl, by decide +kernel, by decide +kernel⟩
section
variable {P : Program} {w : World} {K : PySem.W.Frag} {mg : Str → Option Value} {base : Heap}
theorem ok_lawvalue {f : Addr} {fd : FuncData} {k n : Nat} (F : Fun K "_law_value" "_law_value" sLawValue f fd)
    (GV : FnOk P w K mg base CX0 k f fd ["e", "scope", "looked"] (spLawValue n)) (bV : Binds K fd ["e", "scope", "looked"] []) (kV : PySem.W.keepIn K (.ref f) = true) (mV : mg "_law_value" = some (.ref f)) (m_int : mg "int" = none) (m_len : mg "len" = none) :
    FnOk P w K mg base CX0 (k + 1) f fd ["e", "scope", "looked"] (spLawValue (n + 1)) := by
  refine F.ok scLawValue (fun vs H Q E h => ?_) (fun cdv A outer s H vs Q E' hr h => ?_)
  · obtain ⟨e, c, ve, sa, ac, ap, as, l, L, rfl, _⟩ := h
    rfl
  obtain ⟨e, c, ve, sa, ac, ap, as, l, L, rfl, he, hsa, hac, hap, has, hne, hL, hd, hz, q⟩ := h
  have nd := scLawValue.nd
  refine ⟨_, (pss_cons (ps_if (pt_cmpR op_eq (pe_ix ix_tup (pv 0) pe_int (fun _ _ => rfl)) pe_str (nomark _))
  (pss_one (ps_ret (pe_ix ix_tup (pv 0) pe_int (fun _ _ => rfl))))
  pss_nil)
  (pss_cons (ps_if (pt_cmpR op_eq (pe_ix ix_tup (pv 0) pe_int (fun _ _ => rfl)) pe_str (nomark _))
  (pss_one (ps_ret (pe_ix ix_list (pv 1) pe_int (fun _ _ => rfl))))
  pss_nil)
  (pss_cons (ps_if (pt_cmpR op_in_seq (pe_ix ix_tup (pv 0) pe_int (fun _ _ => rfl)) (pe_lst (pa_cons pe_str (pa_cons pe_str (pa_cons pe_str pa_nil)))) (by rfl))
  (pss_cons (ps_set (i := 3) nd rfl (.inl rfl) (pe_ix ix_list (pv 1) (pe_bm PySem.F.plainAttrs_list PySem.F.slot_list_index PySem.F.type_list_index mt_index (pe_lst (pa_cons pe_str (pa_cons pe_str (pa_cons pe_str pa_nil)))) (pa_cons (pe_ix ix_tup (pv 0) pe_int (fun _ _ => rfl)) pa_nil)) (fun _ _ => rfl)))
  (pss_cons (ps_if (pt_cmpR op_ge (pe_ix ix_tup (pv 0) pe_int (fun _ _ => rfl)) (pe_callB call_len_seq (by rfl) m_len PySem.boot_len (pa_cons (pv 3) pa_nil)) (nomark _))
  (pss_one (ps_ret pe_int))
  pss_nil)
  (pss_cut (ps_if (pt_cmpR op_eq (pe_ix ix_tup (pv 0) pe_int (fun _ _ => rfl)) pe_str (nomark _))
  (pss_one (ps_expr (pe_bm PySem.F.plainAttrs_list PySem.F.slot_list_append PySem.F.type_list_append mt_append (pv 2) (pa_cons (pe_ix ix_tup (pv 0) pe_int (fun _ _ => rfl)) pa_nil))))
  pss_nil)
  (pss_one (ps_ret (pe_ix ix_tup (pv 3) (pe_ix ix_tup (pv 0) pe_int (fun _ _ => rfl)) (fun _ _ => rfl)))))))
  pss_nil)
  (pss_cons (ps_set (i := 4) nd rfl (.inl rfl) (pe_call GV hr rfl mV kV bV .nil pass0 (pa_cons (pe_ix ix_tup (pv 0) pe_int (fun _ _ => rfl)) (pa_cons (pv 1) (pa_cons (pv 2) pa_nil)))))
  (pss_cons (ps_if (pt_cmpR op_eq (pe_ix ix_tup (pv 0) pe_int (fun _ _ => rfl)) pe_str (nomark _))
  (pss_one (ps_ret (pe_call GV hr rfl mV kV bV .nil pass0 (pa_cons (pe_ix ix_tup (pv 0) (pe_ix ix_list (pe_lst (pa_cons pe_int (pa_cons pe_int pa_nil))) (pe_callTy call_int1 (by rfl) m_int bo_int (pa_cons (pe_cmpR op_ne (pv 4) pe_int (nomark _)) pa_nil)) (fun _ _ => rfl)) (fun _ _ => rfl)) (pa_cons (pv 1) (pa_cons (pv 2) pa_nil))))))
  pss_nil)
  (pss_cons (ps_set (i := 5) nd rfl (.inl rfl) (pe_call GV hr rfl mV kV bV .nil pass0 (pa_cons (pe_ix ix_tup (pv 0) pe_int (fun _ _ => rfl)) (pa_cons (pv 1) (pa_cons (pv 2) pa_nil)))))
  (pss_cons (ps_if (pt_cmpR op_eq (pe_ix ix_tup (pv 0) pe_int (fun _ _ => rfl)) pe_str (nomark _))
  (pss_one (ps_ret (pe_op op_mod (pe_callTy call_int1 (by rfl) m_int bo_int (pa_cons (pe_op op_add (pv 4) (pv 5)) pa_nil)) pe_int)))
  pss_nil)
  (pss_cons (ps_if (pt_cmpR op_eq (pe_ix ix_tup (pv 0) pe_int (fun _ _ => rfl)) pe_str (nomark _))
  (pss_one (ps_ret (pe_op op_mod (pe_callTy call_int1 (by rfl) m_int bo_int (pa_cons (pe_op op_sub (pv 4) (pv 5)) pa_nil)) pe_int)))
  pss_nil)
  (pss_cons (ps_if (pt_cmpR op_eq (pe_ix ix_tup (pv 0) pe_int (fun _ _ => rfl)) pe_str (nomark _))
  (pss_one (ps_ret (pe_callTy call_int1 (by rfl) m_int bo_int (pa_cons (pe_cmpR op_eq (pv 4) (pv 5) (nomark _)) pa_nil))))
  pss_nil)
  (pss_one (ps_ret (pe_callTy call_int1 (by rfl) m_int bo_int (pa_cons (pe_cmpR op_lt (pv 4) (pv 5) (nomark _)) pa_nil))))))))))))), ?_⟩
  cases e with
  | num m =>
    obtain ⟨a, _, _, rfl, ha, p0, p1⟩ := IsT.inv2 he
    obtain rfl := p0.of_str
    obtain rfl := p1.of_int
    refine ⟨_, rfl, a, _, _, _, rfl, rfl, SqT.of ha, at0, rfl, _, rfl, iteTd rfl ?_⟩
    refine ⟨_, rfl, a, _, _, _, rfl, rfl, SqT.of ha, at1, ?_⟩
    exact q H (by simpa [E.looks] using hL) Oth.refl
  | cell m =>
    obtain ⟨a, _, _, rfl, ha, p0, p1⟩ := IsT.inv2 he
    obtain rfl := p0.of_str
    obtain rfl := p1.of_int
    refine ⟨_, rfl, a, _, _, _, rfl, rfl, SqT.of ha, at0, rfl, _, rfl, iteFd (by decide) ?_⟩
    refine ⟨_, rfl, a, _, _, _, rfl, rfl, SqT.of ha, at0, rfl, _, rfl, iteFd (by decide) ?_⟩
    refine ⟨_, rfl, a, _, _, _, rfl, rfl, SqT.of ha, at0, sz, fun l0 hl0 => ⟨l0, _, rfl, .inl (SqL.of upd_same), rfl, rfl, _, rfl, iteTb (by decide) ?_⟩⟩
    have o0 : Oth [l] H (upd H l0 (.lst [.str "cell", .str "prop", .str "store"])) := Oth.new hl0
    have ha0 := o0.tup _ _ ha
    have hsa0 := o0.keep sa _ (by simp [hne]) hsa
    have hL0 : (upd H l0 (.lst [.str "cell", .str "prop", .str "store"])) l = some (.lst L) := by rw [upd_ne (ne_of_none hL hl0)]; exact hL
    refine ⟨_, rfl, sz, fun l1 hl1 => ⟨.inl ⟨rfl, _, SqL.of upd_same⟩, ?_⟩⟩
    have o1 : Oth [l] (upd H l0 (.lst [.str "cell", .str "prop", .str "store"])) (upd (upd H l0 (.lst [.str "cell", .str "prop", .str "store"])) l1 (.lst [.str "cell", .str "prop", .str "store"])) := Oth.new hl1
    have ha1 := o1.tup _ _ ha0
    have hsa1 := o1.keep sa _ (by simp [hne]) hsa0
    have hL1 : (upd (upd H l0 (.lst [.str "cell", .str "prop", .str "store"])) l1 (.lst [.str "cell", .str "prop", .str "store"])) l = some (.lst L) := by rw [upd_ne (ne_of_none hL0 hl1)]; exact hL0
    have hx := o1.tup _ _ (o0.tup _ _ hac)
    refine ⟨_, rfl, a, _, _, _, rfl, rfl, SqT.of ha1, at0, l1, _, _, 0, _, rfl, rfl, SqL.of upd_same, rfl, rfl, rfl, rfl, fun m z' h => absurd h (Nat.not_lt_zero _), sa, _, _, _, rfl, rfl, SqL.of hsa1, at0, ?_⟩
    refine ⟨_, rfl, a, _, _, _, rfl, rfl, SqT.of ha1, at1, _, rfl, ac, _, rfl, .inr (SqT.of hx), _, _, rfl, rfl, _, rfl, ite2 (fun y => ?_) (fun y => ?_)⟩
    · have y' : ((c.cells.map V.int).length : Int) ≤ (m : Int) := of_decide_eq_true y
      rw [List.length_map] at y'
      have y2 : ¬ m < c.cells.length := by omega
      have q2 := q _ (by rw [hL1]; simp [E.looks]) (o0.trans o1)
      rw [E.val, getD_out y2] at q2
      exact q2
    · have y' : ¬ ((c.cells.map V.int).length : Int) ≤ (m : Int) := of_decide_eq_false (Bool.eq_false_iff.mpr y)
      rw [List.length_map] at y'
      have y2 : m < c.cells.length := by omega
      refine ⟨fun σ2 H2 => σ2 = [some (.ref a), some (.ref sa), some (.ref l), some (.ref ac), none, none] ∧ H2 = _, ⟨_, rfl, a, _, _, _, rfl, rfl, SqT.of ha1, at0, rfl, _, rfl, iteFd (by decide) ⟨rfl, rfl⟩⟩, ?_⟩
      rintro σ2 H2 ⟨rfl, rfl⟩
      refine ⟨_, rfl, _, rfl, a, _, _, _, rfl, rfl, SqT.of ha1, at1, ac, _, _, _, rfl, rfl, SqT.of hx, atI_nat (getD_of y2), ?_⟩
      exact q _ (by rw [hL1]; simp [E.looks]) (o0.trans o1)
  | prop m =>
    obtain ⟨a, _, _, rfl, ha, p0, p1⟩ := IsT.inv2 he
    obtain rfl := p0.of_str
    obtain rfl := p1.of_int
    refine ⟨_, rfl, a, _, _, _, rfl, rfl, SqT.of ha, at0, rfl, _, rfl, iteFd (by decide) ?_⟩
    refine ⟨_, rfl, a, _, _, _, rfl, rfl, SqT.of ha, at0, rfl, _, rfl, iteFd (by decide) ?_⟩
    refine ⟨_, rfl, a, _, _, _, rfl, rfl, SqT.of ha, at0, sz, fun l0 hl0 => ⟨l0, _, rfl, .inl (SqL.of upd_same), rfl, rfl, _, rfl, iteTb (by decide) ?_⟩⟩
    have o0 : Oth [l] H (upd H l0 (.lst [.str "cell", .str "prop", .str "store"])) := Oth.new hl0
    have ha0 := o0.tup _ _ ha
    have hsa0 := o0.keep sa _ (by simp [hne]) hsa
    have hL0 : (upd H l0 (.lst [.str "cell", .str "prop", .str "store"])) l = some (.lst L) := by rw [upd_ne (ne_of_none hL hl0)]; exact hL
    refine ⟨_, rfl, sz, fun l1 hl1 => ⟨.inl ⟨rfl, _, SqL.of upd_same⟩, ?_⟩⟩
    have o1 : Oth [l] (upd H l0 (.lst [.str "cell", .str "prop", .str "store"])) (upd (upd H l0 (.lst [.str "cell", .str "prop", .str "store"])) l1 (.lst [.str "cell", .str "prop", .str "store"])) := Oth.new hl1
    have ha1 := o1.tup _ _ ha0
    have hsa1 := o1.keep sa _ (by simp [hne]) hsa0
    have hL1 : (upd (upd H l0 (.lst [.str "cell", .str "prop", .str "store"])) l1 (.lst [.str "cell", .str "prop", .str "store"])) l = some (.lst L) := by rw [upd_ne (ne_of_none hL0 hl1)]; exact hL0
    have hx := o1.tup _ _ (o0.tup _ _ hap)
    refine ⟨_, rfl, a, _, _, _, rfl, rfl, SqT.of ha1, at0, l1, _, _, 1, _, rfl, rfl, SqL.of upd_same, rfl, rfl, rfl, rfl, lt1 rfl, sa, _, _, _, rfl, rfl, SqL.of hsa1, at1, ?_⟩
    refine ⟨_, rfl, a, _, _, _, rfl, rfl, SqT.of ha1, at1, _, rfl, ap, _, rfl, .inr (SqT.of hx), _, _, rfl, rfl, _, rfl, ite2 (fun y => ?_) (fun y => ?_)⟩
    · have y' : ((c.props.map V.int).length : Int) ≤ (m : Int) := of_decide_eq_true y
      rw [List.length_map] at y'
      have y2 : ¬ m < c.props.length := by omega
      have q2 := q _ (by rw [hL1]; simp [E.looks]) (o0.trans o1)
      rw [E.val, getD_out y2] at q2
      exact q2
    · have y' : ¬ ((c.props.map V.int).length : Int) ≤ (m : Int) := of_decide_eq_false (Bool.eq_false_iff.mpr y)
      rw [List.length_map] at y'
      have y2 : m < c.props.length := by omega
      refine ⟨fun σ2 H2 => σ2 = [some (.ref a), some (.ref sa), some (.ref l), some (.ref ap), none, none] ∧ H2 = _, ⟨_, rfl, a, _, _, _, rfl, rfl, SqT.of ha1, at0, rfl, _, rfl, iteFd (by decide) ⟨rfl, rfl⟩⟩, ?_⟩
      rintro σ2 H2 ⟨rfl, rfl⟩
      refine ⟨_, rfl, _, rfl, a, _, _, _, rfl, rfl, SqT.of ha1, at1, ap, _, _, _, rfl, rfl, SqT.of hx, atI_nat (getD_of y2), ?_⟩
      exact q _ (by rw [hL1]; simp [E.looks]) (o0.trans o1)
  | store m =>
    obtain ⟨a, _, _, rfl, ha, p0, p1⟩ := IsT.inv2 he
    obtain rfl := p0.of_str
    obtain rfl := p1.of_int
    refine ⟨_, rfl, a, _, _, _, rfl, rfl, SqT.of ha, at0, rfl, _, rfl, iteFd (by decide) ?_⟩
    refine ⟨_, rfl, a, _, _, _, rfl, rfl, SqT.of ha, at0, rfl, _, rfl, iteFd (by decide) ?_⟩
    refine ⟨_, rfl, a, _, _, _, rfl, rfl, SqT.of ha, at0, sz, fun l0 hl0 => ⟨l0, _, rfl, .inl (SqL.of upd_same), rfl, rfl, _, rfl, iteTb (by decide) ?_⟩⟩
    have o0 : Oth [l] H (upd H l0 (.lst [.str "cell", .str "prop", .str "store"])) := Oth.new hl0
    have ha0 := o0.tup _ _ ha
    have hsa0 := o0.keep sa _ (by simp [hne]) hsa
    have hL0 : (upd H l0 (.lst [.str "cell", .str "prop", .str "store"])) l = some (.lst L) := by rw [upd_ne (ne_of_none hL hl0)]; exact hL
    refine ⟨_, rfl, sz, fun l1 hl1 => ⟨.inl ⟨rfl, _, SqL.of upd_same⟩, ?_⟩⟩
    have o1 : Oth [l] (upd H l0 (.lst [.str "cell", .str "prop", .str "store"])) (upd (upd H l0 (.lst [.str "cell", .str "prop", .str "store"])) l1 (.lst [.str "cell", .str "prop", .str "store"])) := Oth.new hl1
    have ha1 := o1.tup _ _ ha0
    have hsa1 := o1.keep sa _ (by simp [hne]) hsa0
    have hL1 : (upd (upd H l0 (.lst [.str "cell", .str "prop", .str "store"])) l1 (.lst [.str "cell", .str "prop", .str "store"])) l = some (.lst L) := by rw [upd_ne (ne_of_none hL0 hl1)]; exact hL0
    have hx := o1.tup _ _ (o0.tup _ _ has)
    refine ⟨_, rfl, a, _, _, _, rfl, rfl, SqT.of ha1, at0, l1, _, _, 2, _, rfl, rfl, SqL.of upd_same, rfl, rfl, rfl, rfl, lt2 rfl rfl, sa, _, _, _, rfl, rfl, SqL.of hsa1, at2, ?_⟩
    refine ⟨_, rfl, a, _, _, _, rfl, rfl, SqT.of ha1, at1, _, rfl, as, _, rfl, .inr (SqT.of hx), _, _, rfl, rfl, _, rfl, ite2 (fun y => ?_) (fun y => ?_)⟩
    · have y' : ((c.store.map V.int).length : Int) ≤ (m : Int) := of_decide_eq_true y
      rw [List.length_map] at y'
      have y2 : ¬ m < c.store.length := by omega
      have q2 := q _ (by rw [hL1]; rw [E.looks, if_neg y2]; simp) (o0.trans o1)
      rw [E.val, getD_out y2] at q2
      exact q2
    · have y' : ¬ ((c.store.map V.int).length : Int) ≤ (m : Int) := of_decide_eq_false (Bool.eq_false_iff.mpr y)
      rw [List.length_map] at y'
      have y2 : m < c.store.length := by omega
      have hs : L.length < sizeLine := Nat.lt_of_le_of_lt (by omega : L.length ≤ 100000) (by decide)
      have o2 : Oth [l] (upd (upd H l0 (.lst [.str "cell", .str "prop", .str "store"])) l1 (.lst [.str "cell", .str "prop", .str "store"])) (upd (upd (upd H l0 (.lst [.str "cell", .str "prop", .str "store"])) l1 (.lst [.str "cell", .str "prop", .str "store"])) l (.lst (L ++ [.int (m : Int)]))) := Oth.put (by simp) hL1
      refine ⟨fun σ2 H2 => σ2 = [some (.ref a), some (.ref sa), some (.ref l), some (.ref as), none, none] ∧ H2 = _, ⟨_, rfl, a, _, _, _, rfl, rfl, SqT.of ha1, at0, rfl, _, rfl, iteTd rfl ⟨_, rfl, .inl ⟨rfl, _, SqL.of hL1⟩, _, rfl, a, _, _, _, rfl, rfl, SqT.of ha1, at1, l, _, _, rfl, rfl, hL1, hs, rfl, rfl⟩⟩, ?_⟩
      rintro σ2 H2 ⟨rfl, rfl⟩
      refine ⟨_, rfl, _, rfl, a, _, _, _, rfl, rfl, SqT.of (o2.tup _ _ ha1), at1, as, _, _, _, rfl, rfl, SqT.of (o2.tup _ _ hx), atI_nat (getD_of y2), ?_⟩
      exact q _ (by rw [upd_same, E.looks, if_pos y2]; rfl) (o0.trans (o1.trans o2))
  | index =>
    obtain ⟨a, _, rfl, ha, p0⟩ := IsT.inv1 he
    obtain rfl := p0.of_str
    refine ⟨_, rfl, a, _, _, _, rfl, rfl, SqT.of ha, at0, rfl, _, rfl, iteFd (by decide) ?_⟩
    refine ⟨_, rfl, a, _, _, _, rfl, rfl, SqT.of ha, at0, rfl, _, rfl, iteTd rfl ?_⟩
    refine ⟨_, rfl, sa, _, _, _, rfl, rfl, SqL.of hsa, at3, ?_⟩
    exact q H (by simpa [E.looks] using hL) Oth.refl
  | plus e1 e2 =>
    obtain ⟨a, _, v1, v2, rfl, ha, p0, p1, p2⟩ := IsT.inv3 he
    obtain rfl := p0.of_str
    have z1 := E.size_pos e1
    have z2 := E.size_pos e2
    simp only [E.depth, E.size] at hd hz
    have z3 := E.looks_le c e1
    refine ⟨_, rfl, a, _, _, _, rfl, rfl, SqT.of ha, at0, rfl, _, rfl, iteFd (by decide) ?_⟩
    refine ⟨_, rfl, a, _, _, _, rfl, rfl, SqT.of ha, at0, rfl, _, rfl, iteFd (by decide) ?_⟩
    refine ⟨_, rfl, a, _, _, _, rfl, rfl, SqT.of ha, at0, sz, fun l0 hl0 => ⟨l0, _, rfl, .inl (SqL.of upd_same), rfl, rfl, _, rfl, iteFb (by decide) ?_⟩⟩
    have o0 : Oth [l] H (upd H l0 (.lst [.str "cell", .str "prop", .str "store"])) := Oth.new hl0
    have ha0 := o0.tup _ _ ha
    have hsa0 := o0.keep sa _ (by simp [hne]) hsa
    have hL0 : (upd H l0 (.lst [.str "cell", .str "prop", .str "store"])) l = some (.lst L) := by rw [upd_ne (ne_of_none hL hl0)]; exact hL
    refine ⟨_, rfl, a, _, _, _, rfl, rfl, SqT.of ha0, at1, _, rfl, _, rfl, e1, c, _, sa, ac, ap, as, l, L, rfl, p1.oth o0, hsa0, o0.tup _ _ hac, o0.tup _ _ hap, o0.tup _ _ has, hne, hL0, by omega, by omega, fun H1 hL1 o1 => ?_⟩
    have o01 := o0.trans o1
    have ha1 := o1.tup _ _ ha0
    have hsa1 := o1.keep sa _ (by simp [hne]) hsa0
    refine ⟨_, rfl, a, _, _, _, rfl, rfl, SqT.of ha1, at0, rfl, _, rfl, iteFd (by decide) ?_⟩
    refine ⟨_, rfl, a, _, _, _, rfl, rfl, SqT.of ha1, at2, _, rfl, _, rfl, e2, c, _, sa, ac, ap, as, l, _, rfl, p2.oth o01, hsa1, o01.tup _ _ hac, o01.tup _ _ hap, o01.tup _ _ has, hne, hL1, by omega, by simp only [List.length_append, List.length_map]; omega, fun H2 hL2 o2 => ?_⟩
    have ha2 := o2.tup _ _ ha1
    have fin : H2 l = some (.lst (L ++ (e1.looks c ++ e2.looks c).map V.int)) := by rw [hL2, List.map_append, List.append_assoc]
    have q2 := q H2 fin (o01.trans o2)
    refine ⟨_, rfl, a, _, _, _, rfl, rfl, SqT.of ha2, at0, rfl, _, rfl, iteTd rfl ?_⟩
    exact ⟨_, rfl, _, rfl, _, _, rfl, rfl, .inl ⟨_, rfl, _, _, rfl, rfl, (by show (0 : Int) < 1000; decide), q2⟩⟩
  | minus e1 e2 =>
    obtain ⟨a, _, v1, v2, rfl, ha, p0, p1, p2⟩ := IsT.inv3 he
    obtain rfl := p0.of_str
    have z1 := E.size_pos e1
    have z2 := E.size_pos e2
    simp only [E.depth, E.size] at hd hz
    have z3 := E.looks_le c e1
    refine ⟨_, rfl, a, _, _, _, rfl, rfl, SqT.of ha, at0, rfl, _, rfl, iteFd (by decide) ?_⟩
    refine ⟨_, rfl, a, _, _, _, rfl, rfl, SqT.of ha, at0, rfl, _, rfl, iteFd (by decide) ?_⟩
    refine ⟨_, rfl, a, _, _, _, rfl, rfl, SqT.of ha, at0, sz, fun l0 hl0 => ⟨l0, _, rfl, .inl (SqL.of upd_same), rfl, rfl, _, rfl, iteFb (by decide) ?_⟩⟩
    have o0 : Oth [l] H (upd H l0 (.lst [.str "cell", .str "prop", .str "store"])) := Oth.new hl0
    have ha0 := o0.tup _ _ ha
    have hsa0 := o0.keep sa _ (by simp [hne]) hsa
    have hL0 : (upd H l0 (.lst [.str "cell", .str "prop", .str "store"])) l = some (.lst L) := by rw [upd_ne (ne_of_none hL hl0)]; exact hL
    refine ⟨_, rfl, a, _, _, _, rfl, rfl, SqT.of ha0, at1, _, rfl, _, rfl, e1, c, _, sa, ac, ap, as, l, L, rfl, p1.oth o0, hsa0, o0.tup _ _ hac, o0.tup _ _ hap, o0.tup _ _ has, hne, hL0, by omega, by omega, fun H1 hL1 o1 => ?_⟩
    have o01 := o0.trans o1
    have ha1 := o1.tup _ _ ha0
    have hsa1 := o1.keep sa _ (by simp [hne]) hsa0
    refine ⟨_, rfl, a, _, _, _, rfl, rfl, SqT.of ha1, at0, rfl, _, rfl, iteFd (by decide) ?_⟩
    refine ⟨_, rfl, a, _, _, _, rfl, rfl, SqT.of ha1, at2, _, rfl, _, rfl, e2, c, _, sa, ac, ap, as, l, _, rfl, p2.oth o01, hsa1, o01.tup _ _ hac, o01.tup _ _ hap, o01.tup _ _ has, hne, hL1, by omega, by simp only [List.length_append, List.length_map]; omega, fun H2 hL2 o2 => ?_⟩
    have ha2 := o2.tup _ _ ha1
    have fin : H2 l = some (.lst (L ++ (e1.looks c ++ e2.looks c).map V.int)) := by rw [hL2, List.map_append, List.append_assoc]
    have q2 := q H2 fin (o01.trans o2)
    refine ⟨_, rfl, a, _, _, _, rfl, rfl, SqT.of ha2, at0, rfl, _, rfl, iteFd (by decide) ?_⟩
    refine ⟨_, rfl, a, _, _, _, rfl, rfl, SqT.of ha2, at0, rfl, _, rfl, iteTd rfl ?_⟩
    exact ⟨_, rfl, _, rfl, _, _, rfl, rfl, .inl ⟨_, rfl, _, _, rfl, rfl, (by show (0 : Int) < 1000; decide), q2⟩⟩
  | same e1 e2 =>
    obtain ⟨a, _, v1, v2, rfl, ha, p0, p1, p2⟩ := IsT.inv3 he
    obtain rfl := p0.of_str
    have z1 := E.size_pos e1
    have z2 := E.size_pos e2
    simp only [E.depth, E.size] at hd hz
    have z3 := E.looks_le c e1
    refine ⟨_, rfl, a, _, _, _, rfl, rfl, SqT.of ha, at0, rfl, _, rfl, iteFd (by decide) ?_⟩
    refine ⟨_, rfl, a, _, _, _, rfl, rfl, SqT.of ha, at0, rfl, _, rfl, iteFd (by decide) ?_⟩
    refine ⟨_, rfl, a, _, _, _, rfl, rfl, SqT.of ha, at0, sz, fun l0 hl0 => ⟨l0, _, rfl, .inl (SqL.of upd_same), rfl, rfl, _, rfl, iteFb (by decide) ?_⟩⟩
    have o0 : Oth [l] H (upd H l0 (.lst [.str "cell", .str "prop", .str "store"])) := Oth.new hl0
    have ha0 := o0.tup _ _ ha
    have hsa0 := o0.keep sa _ (by simp [hne]) hsa
    have hL0 : (upd H l0 (.lst [.str "cell", .str "prop", .str "store"])) l = some (.lst L) := by rw [upd_ne (ne_of_none hL hl0)]; exact hL
    refine ⟨_, rfl, a, _, _, _, rfl, rfl, SqT.of ha0, at1, _, rfl, _, rfl, e1, c, _, sa, ac, ap, as, l, L, rfl, p1.oth o0, hsa0, o0.tup _ _ hac, o0.tup _ _ hap, o0.tup _ _ has, hne, hL0, by omega, by omega, fun H1 hL1 o1 => ?_⟩
    have o01 := o0.trans o1
    have ha1 := o1.tup _ _ ha0
    have hsa1 := o1.keep sa _ (by simp [hne]) hsa0
    refine ⟨_, rfl, a, _, _, _, rfl, rfl, SqT.of ha1, at0, rfl, _, rfl, iteFd (by decide) ?_⟩
    refine ⟨_, rfl, a, _, _, _, rfl, rfl, SqT.of ha1, at2, _, rfl, _, rfl, e2, c, _, sa, ac, ap, as, l, _, rfl, p2.oth o01, hsa1, o01.tup _ _ hac, o01.tup _ _ hap, o01.tup _ _ has, hne, hL1, by omega, by simp only [List.length_append, List.length_map]; omega, fun H2 hL2 o2 => ?_⟩
    have ha2 := o2.tup _ _ ha1
    have fin : H2 l = some (.lst (L ++ (e1.looks c ++ e2.looks c).map V.int)) := by rw [hL2, List.map_append, List.append_assoc]
    have q2 := q H2 fin (o01.trans o2)
    refine ⟨_, rfl, a, _, _, _, rfl, rfl, SqT.of ha2, at0, rfl, _, rfl, iteFd (by decide) ?_⟩
    refine ⟨_, rfl, a, _, _, _, rfl, rfl, SqT.of ha2, at0, rfl, _, rfl, iteFd (by decide) ?_⟩
    refine ⟨_, rfl, a, _, _, _, rfl, rfl, SqT.of ha2, at0, rfl, _, rfl, iteTd rfl ?_⟩
    refine ⟨_, rfl, _, rfl, rfl, .inr ⟨_, rfl, ?_⟩⟩
    by_cases y : e1.val c = e2.val c
    · rw [E.val, if_pos y] at q2
      rw [decide_eq_true (by rw [y] : V.int (e1.val c) = V.int (e2.val c))]
      exact q2
    · rw [E.val, if_neg y] at q2
      rw [decide_eq_false (fun z => y (V.int.inj z) : ¬ V.int (e1.val c) = V.int (e2.val c))]
      exact q2
  | less e1 e2 =>
    obtain ⟨a, _, v1, v2, rfl, ha, p0, p1, p2⟩ := IsT.inv3 he
    obtain rfl := p0.of_str
    have z1 := E.size_pos e1
    have z2 := E.size_pos e2
    simp only [E.depth, E.size] at hd hz
    have z3 := E.looks_le c e1
    refine ⟨_, rfl, a, _, _, _, rfl, rfl, SqT.of ha, at0, rfl, _, rfl, iteFd (by decide) ?_⟩
    refine ⟨_, rfl, a, _, _, _, rfl, rfl, SqT.of ha, at0, rfl, _, rfl, iteFd (by decide) ?_⟩
    refine ⟨_, rfl, a, _, _, _, rfl, rfl, SqT.of ha, at0, sz, fun l0 hl0 => ⟨l0, _, rfl, .inl (SqL.of upd_same), rfl, rfl, _, rfl, iteFb (by decide) ?_⟩⟩
    have o0 : Oth [l] H (upd H l0 (.lst [.str "cell", .str "prop", .str "store"])) := Oth.new hl0
    have ha0 := o0.tup _ _ ha
    have hsa0 := o0.keep sa _ (by simp [hne]) hsa
    have hL0 : (upd H l0 (.lst [.str "cell", .str "prop", .str "store"])) l = some (.lst L) := by rw [upd_ne (ne_of_none hL hl0)]; exact hL
    refine ⟨_, rfl, a, _, _, _, rfl, rfl, SqT.of ha0, at1, _, rfl, _, rfl, e1, c, _, sa, ac, ap, as, l, L, rfl, p1.oth o0, hsa0, o0.tup _ _ hac, o0.tup _ _ hap, o0.tup _ _ has, hne, hL0, by omega, by omega, fun H1 hL1 o1 => ?_⟩
    have o01 := o0.trans o1
    have ha1 := o1.tup _ _ ha0
    have hsa1 := o1.keep sa _ (by simp [hne]) hsa0
    refine ⟨_, rfl, a, _, _, _, rfl, rfl, SqT.of ha1, at0, rfl, _, rfl, iteFd (by decide) ?_⟩
    refine ⟨_, rfl, a, _, _, _, rfl, rfl, SqT.of ha1, at2, _, rfl, _, rfl, e2, c, _, sa, ac, ap, as, l, _, rfl, p2.oth o01, hsa1, o01.tup _ _ hac, o01.tup _ _ hap, o01.tup _ _ has, hne, hL1, by omega, by simp only [List.length_append, List.length_map]; omega, fun H2 hL2 o2 => ?_⟩
    have ha2 := o2.tup _ _ ha1
    have fin : H2 l = some (.lst (L ++ (e1.looks c ++ e2.looks c).map V.int)) := by rw [hL2, List.map_append, List.append_assoc]
    have q2 := q H2 fin (o01.trans o2)
    refine ⟨_, rfl, a, _, _, _, rfl, rfl, SqT.of ha2, at0, rfl, _, rfl, iteFd (by decide) ?_⟩
    refine ⟨_, rfl, a, _, _, _, rfl, rfl, SqT.of ha2, at0, rfl, _, rfl, iteFd (by decide) ?_⟩
    refine ⟨_, rfl, a, _, _, _, rfl, rfl, SqT.of ha2, at0, rfl, _, rfl, iteFd (by decide) ?_⟩
    refine ⟨_, rfl, _, rfl, _, _, rfl, rfl, .inr ⟨_, rfl, ?_⟩⟩
    by_cases y : e1.val c < e2.val c
    · rw [E.val, if_pos y] at q2
      rw [decide_eq_true y]
      exact q2
    · rw [E.val, if_neg y] at q2
      rw [decide_eq_false y]
      exact q2
  | ite e0 e1 e2 =>
    obtain ⟨a, _, v0, v1, v2, rfl, ha, p0, p3, p1, p2⟩ := IsT.inv4 he
    obtain rfl := p0.of_str
    have z1 := E.size_pos e1
    have z2 := E.size_pos e2
    simp only [E.depth, E.size] at hd hz
    have z0 := E.size_pos e0
    have z3 := E.looks_le c e0
    refine ⟨_, rfl, a, _, _, _, rfl, rfl, SqT.of ha, at0, rfl, _, rfl, iteFd (by decide) ?_⟩
    refine ⟨_, rfl, a, _, _, _, rfl, rfl, SqT.of ha, at0, rfl, _, rfl, iteFd (by decide) ?_⟩
    refine ⟨_, rfl, a, _, _, _, rfl, rfl, SqT.of ha, at0, sz, fun l0 hl0 => ⟨l0, _, rfl, .inl (SqL.of upd_same), rfl, rfl, _, rfl, iteFb (by decide) ?_⟩⟩
    have o0 : Oth [l] H (upd H l0 (.lst [.str "cell", .str "prop", .str "store"])) := Oth.new hl0
    have ha0 := o0.tup _ _ ha
    have hsa0 := o0.keep sa _ (by simp [hne]) hsa
    have hL0 : (upd H l0 (.lst [.str "cell", .str "prop", .str "store"])) l = some (.lst L) := by rw [upd_ne (ne_of_none hL hl0)]; exact hL
    refine ⟨_, rfl, a, _, _, _, rfl, rfl, SqT.of ha0, at1, _, rfl, _, rfl, e0, c, _, sa, ac, ap, as, l, L, rfl, p3.oth o0, hsa0, o0.tup _ _ hac, o0.tup _ _ hap, o0.tup _ _ has, hne, hL0, by omega, by omega, fun H1 hL1 o1 => ?_⟩
    have o01 := o0.trans o1
    have ha1 := o1.tup _ _ ha0
    have hsa1 := o1.keep sa _ (by simp [hne]) hsa0
    refine ⟨_, rfl, a, _, _, _, rfl, rfl, SqT.of ha1, at0, rfl, _, rfl, iteTd rfl ?_⟩
    by_cases y : e0.val c = 0
    · have hk : (if (!decide (V.int (e0.val c) = V.int 0)) = true then (1 : Int) else 0) = 0 := by
        rw [decide_eq_true (by rw [y] : V.int (e0.val c) = V.int 0)]; rfl
      refine ⟨_, rfl, sz, fun l2 hl2 => ⟨_, rfl, rfl, .inr ⟨_, rfl, l2, _, _, _, rfl, rfl, SqL.of upd_same, (by rw [hk]; exact at0), ?_⟩⟩⟩
      have o2 : Oth [l] H1 (upd H1 l2 (.lst [.int 3, .int 2])) := Oth.new hl2
      have hL2 : (upd H1 l2 (.lst [.int 3, .int 2])) l = some (.lst (L ++ (e0.looks c).map V.int)) := by rw [upd_ne (ne_of_none hL1 hl2)]; exact hL1
      have o02 := o01.trans o2
      refine ⟨a, _, _, _, rfl, rfl, SqT.of (o2.tup _ _ ha1), at3, _, rfl, _, rfl, e2, c, _, sa, ac, ap, as, l, _, rfl, p2.oth o02, o2.keep sa _ (by simp [hne]) hsa1, o02.tup _ _ hac, o02.tup _ _ hap, o02.tup _ _ has, hne, hL2, by omega, by simp only [List.length_append, List.length_map]; omega, fun H3 hL3 o3 => ?_⟩
      have q2 := q H3 (by rw [hL3, E.looks, if_pos y, List.map_append, List.append_assoc]) (o02.trans o3)
      rw [E.val, if_pos y] at q2
      exact q2
    · have hk : (if (!decide (V.int (e0.val c) = V.int 0)) = true then (1 : Int) else 0) = 1 := by
        rw [decide_eq_false (fun z => y (V.int.inj z) : ¬ V.int (e0.val c) = V.int 0)]; rfl
      refine ⟨_, rfl, sz, fun l2 hl2 => ⟨_, rfl, rfl, .inr ⟨_, rfl, l2, _, _, _, rfl, rfl, SqL.of upd_same, (by rw [hk]; exact at1), ?_⟩⟩⟩
      have o2 : Oth [l] H1 (upd H1 l2 (.lst [.int 3, .int 2])) := Oth.new hl2
      have hL2 : (upd H1 l2 (.lst [.int 3, .int 2])) l = some (.lst (L ++ (e0.looks c).map V.int)) := by rw [upd_ne (ne_of_none hL1 hl2)]; exact hL1
      have o02 := o01.trans o2
      refine ⟨a, _, _, _, rfl, rfl, SqT.of (o2.tup _ _ ha1), at2, _, rfl, _, rfl, e1, c, _, sa, ac, ap, as, l, _, rfl, p1.oth o02, o2.keep sa _ (by simp [hne]) hsa1, o02.tup _ _ hac, o02.tup _ _ hap, o02.tup _ _ has, hne, hL2, by omega, by simp only [List.length_append, List.length_map]; omega, fun H3 hL3 o3 => ?_⟩
      have q2 := q H3 (by rw [hL3, E.looks, if_neg y, List.map_append, List.append_assoc]) (o02.trans o3)
      rw [E.val, if_neg y] at q2
      exact q2
end
abbrev sExpr : Stmt := topS 42
abbrev sKey : Stmt := topS 43
theorem scExpr : FnScope ["box", "depth", "kind", "leaves", "one", "two"] ["box", "depth"] (defScope sExpr) := ⟨rfl, rfl, rfl, by decide +kernel, rfl, by decide +kernel, by decide +kernel⟩
theorem scKey : FnScope ["box"] ["box"] (defScope sKey) := ⟨rfl, rfl, rfl, by decide +kernel, rfl, by decide +kernel, by decide +kernel⟩
section
variable {P : Program} {w : World} {K : PySem.W.Frag} {mg : Str → Option Value} {base : Heap}
theorem ok_expr {f g : Addr} {fd gd : FuncData} {k n : Nat} (F : Fun K "_law_expr" "_law_expr" sExpr f fd)
    (GE : FnOk P w K mg base CX0 k f fd ["box", "depth"] (spExprY n)) (bE : Binds K fd ["box", "depth"] []) (kE : PySem.W.keepIn K (.ref f) = true) (mE : mg "_law_expr" = some (.ref f))
    (GR : FnOk P w K mg base CX0 k g gd ["box", "many"] spDrawY) (bR : Binds K gd ["box", "many"] []) (kR : PySem.W.keepIn K (.ref g) = true) (mR : mg "_law_draw" = some (.ref g)) (m_int : mg "int" = none) :
    FnOk P w K mg base CX0 (k + 1) f fd ["box", "depth"] (spExprY (n + 1)) := by
  refine F.ok scExpr (fun vs H Q E h => ?_) (fun cdv A outer s H vs Q E' hr h => ?_)
  · obtain ⟨bz, b, dg, pl, d, rfl, _⟩ := h
    rfl
  obtain ⟨bz, b, dg, pl, d, rfl, hdn, bx, q⟩ := h
  have nd := scExpr.nd
  refine ⟨_, (pss_cons (ps_set (i := 2) nd rfl (.inl rfl) (pe_call GR hr rfl mR kR bR .nil pass0 (pa_cons (pv 0) (pa_cons pe_int pa_nil))))
  (pss_cons (ps_if (PW.pt (pw_or (pt_cmpR op_eq (pv 1) pe_int (nomark _)) (pw_or1 (pt_cmpR op_lt (pv 2) pe_int (nomark _)))))
  (pss_cons (ps_set (i := 3) nd rfl (.inl rfl) (pe_lst (pa_cons (pe_tup (pa_cons pe_str (pa_cons pe_int pa_nil))) (pa_cons (pe_tup (pa_cons pe_str (pa_cons pe_int pa_nil))) (pa_cons (pe_tup (pa_cons pe_str (pa_cons pe_int pa_nil))) (pa_cons (pe_tup (pa_cons pe_str (pa_cons pe_int pa_nil))) (pa_cons (pe_tup (pa_cons pe_str (pa_cons pe_int pa_nil))) (pa_cons (pe_tup (pa_cons pe_str pa_nil)) pa_nil))))))))
  (pss_one (ps_ret (pe_ix ix_list (pe_op op_cat (pe_lst (pa_cons (pe_tup (pa_cons pe_str (pa_cons (pe_call GR hr rfl mR kR bR .nil pass0 (pa_cons (pv 0) (pa_cons pe_int pa_nil))) pa_nil))) pa_nil)) (pv 3)) (pe_op op_mod (pe_callTy call_int1 (by rfl) m_int bo_int (pa_cons (pv 2) pa_nil)) pe_int) (fun _ _ => rfl)))))
  pss_nil)
  (pss_cons (ps_set (i := 4) nd rfl (.inl rfl) (pe_call GE hr rfl mE kE bE .nil pass0 (pa_cons (pv 0) (pa_cons (pe_op op_sub (pv 1) pe_int) pa_nil))))
  (pss_cons (ps_set (i := 5) nd rfl (.inl rfl) (pe_call GE hr rfl mE kE bE .nil pass0 (pa_cons (pv 0) (pa_cons (pe_op op_sub (pv 1) pe_int) pa_nil))))
  (pss_cons (ps_if (pt_cmpR op_eq (pv 2) pe_int (nomark _))
  (pss_one (ps_ret (pe_tup (pa_cons pe_str (pa_cons (pv 4) (pa_cons (pv 5) (pa_cons (pe_call GE hr rfl mE kE bE .nil pass0 (pa_cons (pv 0) (pa_cons (pe_op op_sub (pv 1) pe_int) pa_nil))) pa_nil)))))))
  pss_nil)
  (pss_one (ps_ret (pe_tup (pa_cons (pe_ix ix_list (pe_lst (pa_cons pe_str (pa_cons pe_str (pa_cons pe_str (pa_cons pe_str pa_nil))))) (pe_op op_mod (pe_callTy call_int1 (by rfl) m_int bo_int (pa_cons (pv 2) pa_nil)) pe_int) (fun _ _ => rfl)) (pa_cons (pv 4) (pa_cons (pv 5) pa_nil))))))))))), ?_⟩
  refine ⟨_, rfl, _, b, dg, pl, _, rfl, by decide, bx, fun kind H0 k0 k1 bx0 o0 => ?_⟩
  refine ⟨_, rfl, rfl, _, rfl, ?_⟩
  refine (fun leaf => ite2 (fun c => iteT leaf) (fun c => ⟨_, rfl, _, _, rfl, rfl, _, rfl, ite2 (fun c2 => leaf) (fun c2 => ?node)⟩)) ?leaf
  case node =>
    have hk6 : ¬ kind < 7 := of_decide_eq_false (Bool.eq_false_iff.mpr c2)
    obtain ⟨d', rfl⟩ : ∃ d', d = d' + 1 := by
      cases d with
      | zero => exact absurd (show decide (V.int ((0 : Nat) : Int) = V.int 0) = true from decide_eq_true rfl) c
      | succ d' => exact ⟨d', rfl⟩
    have hd' : ([V.ref b, V.int (((d' + 1 : Nat) : Int) - 1)] : List V) = [V.ref b, V.int (d' : Int)] := by rw [show ((d' + 1 : Nat) : Int) - 1 = (d' : Int) by omega]
    refine ⟨_, rfl, _, rfl, _, _, rfl, rfl, _, b, dg, pl, d', hd', by omega, bx0, fun e1 v1 H1 d1 z1 t1 bx1 o1 => ?_⟩
    refine ⟨_, rfl, _, rfl, _, _, rfl, rfl, _, b, dg, pl, d', hd', by omega, bx1, fun e2 v2 H2 d2 z2 t2 bx2 o2 => ?_⟩
    refine ⟨_, rfl, rfl, _, rfl, ite2 (fun c3 => ?_) (fun c3 => ?_)⟩
    · refine ⟨_, rfl, _, rfl, _, rfl, _, rfl, _, _, rfl, rfl, _, b, dg, pl, d', hd', by omega, bx2, fun e3 v3 H3 d3 z3 t3 bx3 o3 => ⟨sz, fun p hp => ?_⟩⟩
      have on : Oth [b] H3 (upd H3 p (.tup [.str "if", v1, v2, v3])) := Oth.new hp
      refine q (.ite e1 e2 e3) _ _ (by simp only [E.depth]; omega) ⟨z1, z2, z3⟩ ?_ (bx3.new hp) (o0.trans (o1.trans (o2.trans (o3.trans on))))
      exact IsT.mk4 upd_same (.str _) (((t1.oth o2).oth o3).oth on) ((t2.oth o3).oth on) (t3.oth on)
    · have fin : ∀ (x : Str) (mk : E → E → E), (∀ a b, (mk a b).depth = max a.depth b.depth + 1) → (∀ a b, (mk a b).toT = .tup [.str x, a.toT, b.toT]) → (∀ a b, a.Ok → b.Ok → (mk a b).Ok) → ∀ H3 p, Oth [b] H2 H3 → By H3 b dg pl bz → H3 p = none →
          Q (.ref p) (upd H3 p (.tup [.str x, v1, v2])) := fun x mk h1 h4 h5 H3 p o3 bx3 hp => by
        have on : Oth [b] H3 (upd H3 p (.tup [.str x, v1, v2])) := Oth.new hp
        refine q (mk e1 e2) _ _ (by rw [h1]; omega) (h5 _ _ z1 z2) ?_ (bx3.new hp) (o0.trans (o1.trans (o2.trans (o3.trans on))))
        rw [h4]
        exact IsT.mk3 upd_same (.str _) (((t1.oth o2).oth o3).oth on) ((t2.oth o3).oth on)
      have cs : kind % 4 = 0 ∨ kind % 4 = 1 ∨ kind % 4 = 2 ∨ kind % 4 = 3 := by omega
      refine ⟨sz, fun l hl => ⟨_, rfl, .inl ⟨_, rfl, _, _, rfl, rfl, (by show (0 : Int) < 4; decide), l, _, _, ?zzv, rfl, rfl, SqL.of upd_same, ?zza, ?zzb⟩⟩⟩
      case zzv => exact if kind % 4 = 0 then .str "plus" else if kind % 4 = 1 then .str "minus" else if kind % 4 = 2 then .str "same" else .str "less"
      case zza => rcases cs with e | e | e | e <;> rw [e] <;> first | exact at0 | exact at1 | exact at2 | exact at3
      case zzb =>
        refine ⟨_, rfl, _, rfl, sz, fun p hp => ?_⟩
        have ol : Oth [b] H2 (upd H2 l (.lst [.str "plus", .str "minus", .str "same", .str "less"])) := Oth.new hl
        rcases cs with e | e | e | e
        · rw [if_pos e]; exact fin "plus" .plus (fun _ _ => rfl) (fun _ _ => rfl) (fun _ _ h1 h2 => ⟨h1, h2⟩) _ p ol (bx2.new hl) hp
        · rw [if_neg (by omega), if_pos e]; exact fin "minus" .minus (fun _ _ => rfl) (fun _ _ => rfl) (fun _ _ h1 h2 => ⟨h1, h2⟩) _ p ol (bx2.new hl) hp
        · rw [if_neg (by omega), if_neg (by omega), if_pos e]; exact fin "same" .same (fun _ _ => rfl) (fun _ _ => rfl) (fun _ _ h1 h2 => ⟨h1, h2⟩) _ p ol (bx2.new hl) hp
        · rw [if_neg (by omega), if_neg (by omega), if_neg (by omega)]; exact fin "less" .less (fun _ _ => rfl) (fun _ _ => rfl) (fun _ _ h1 h2 => ⟨h1, h2⟩) _ p ol (bx2.new hl) hp
  case leaf =>
    refine ⟨sz, fun p1 hp1 => ⟨sz, fun p2 hp2 => ⟨sz, fun p3 hp3 => ⟨sz, fun p4 hp4 => ⟨sz, fun p5 hp5 => ⟨sz, fun p6 hp6 => ⟨sz, fun l hl => ?_⟩⟩⟩⟩⟩⟩⟩
    have bx1 := ((((((bx0.new (o := .tup [.str "cell", .int 0]) hp1).new (o := .tup [.str "cell", .int 1]) hp2).new (o := .tup [.str "prop", .int 0]) hp3).new (o := .tup [.str "store", .int 0]) hp4).new (o := .tup [.str "store", .int 1]) hp5).new (o := .tup [.str "index"]) hp6).new (o := .lst [.ref p1, .ref p2, .ref p3, .ref p4, .ref p5, .ref p6]) hl
    have g7 := Oth.new (S := [b]) (o := .lst [.ref p1, .ref p2, .ref p3, .ref p4, .ref p5, .ref p6]) hl
    have g6 := (Oth.new (S := [b]) (o := .tup [.str "index"]) hp6).trans g7
    have g5 := (Oth.new (S := [b]) (o := .tup [.str "store", .int 1]) hp5).trans g6
    have g4 := (Oth.new (S := [b]) (o := .tup [.str "store", .int 0]) hp4).trans g5
    have g3 := (Oth.new (S := [b]) (o := .tup [.str "prop", .int 0]) hp3).trans g4
    have g2 := (Oth.new (S := [b]) (o := .tup [.str "cell", .int 1]) hp2).trans g3
    have g1 := (Oth.new (S := [b]) (o := .tup [.str "cell", .int 0]) hp1).trans g2
    have nlb : l ≠ b := fun z => by
      have z' := ((((((bx0.new (o := .tup [.str "cell", .int 0]) hp1).new (o := .tup [.str "cell", .int 1]) hp2).new (o := .tup [.str "prop", .int 0]) hp3).new (o := .tup [.str "store", .int 0]) hp4).new (o := .tup [.str "store", .int 1]) hp5).new (o := .tup [.str "index"]) hp6).nb hl
      exact z' z.symm
    refine ⟨_, rfl, _, b, dg, pl, _, rfl, by decide, bx1, fun r1 H2 l1 u1 bx2 o2 => ⟨sz, fun p7 hp7 => ⟨sz, fun l2 hl2 => ?_⟩⟩⟩
    have g8 := Oth.new (S := [b]) (o := .tup [.str "num", .int r1]) hp7
    have g9 := Oth.new (S := [b]) (o := .lst [.ref p7]) hl2
    have g89 := g8.trans g9
    have ll := g89.keep l _ (by simp [nlb]) (o2.keep l _ (by simp [nlb]) upd_same)
    refine ⟨_, rfl, l2, l, _, _, rfl, rfl, upd_same, ll, sz, fun l3 hl3 => ?_⟩
    have g10 := Oth.new (S := [b]) (o := .lst ([.ref p7] ++ [.ref p1, .ref p2, .ref p3, .ref p4, .ref p5, .ref p6])) hl3
    have cs : kind % 7 = 0 ∨ kind % 7 = 1 ∨ kind % 7 = 2 ∨ kind % 7 = 3 ∨ kind % 7 = 4 ∨ kind % 7 = 5 ∨ kind % 7 = 6 := by omega
    refine ⟨_, rfl, .inl ⟨_, rfl, _, _, rfl, rfl, (by show (0 : Int) < 7; decide), l3, _, _, ?yyv, rfl, rfl, SqL.of upd_same, ?yya, ?yyb⟩⟩
    case yyv => exact if kind % 7 = 0 then .ref p7 else if kind % 7 = 1 then .ref p1 else if kind % 7 = 2 then .ref p2 else if kind % 7 = 3 then .ref p3 else if kind % 7 = 4 then .ref p4 else if kind % 7 = 5 then .ref p5 else .ref p6
    case yya => rcases cs with e | e | e | e | e | e | e <;> rw [e] <;> first | exact at0 | exact at1 | exact at2 | exact at3 | exact at4 | exact at5 | exact atI_nat (j := 6) rfl
    case yyb =>
      have t1 := o2.trans (g89.trans g10)
      have g0 := o0.trans (g1.trans t1)
      have bxf := ((bx2.new (o := .tup [.str "num", .int r1]) hp7).new (o := .lst [.ref p7]) hl2).new (o := .lst ([.ref p7] ++ [.ref p1, .ref p2, .ref p3, .ref p4, .ref p5, .ref p6])) hl3
      rcases cs with e | e | e | e | e | e | e
      · rw [if_pos e]; exact q (.num r1) _ _ (Nat.zero_le _) ⟨l1, by omega⟩ (IsT.mk2 ((g9.trans g10).tup _ _ upd_same) (.str _) (.int _)) bxf g0
      · rw [if_neg (by omega), if_pos e]; exact q (.cell 0) _ _ (Nat.zero_le _) trivial (IsT.mk2 ((g2.trans t1).tup _ _ upd_same) (.str _) (.int _)) bxf g0
      · rw [if_neg (by omega), if_neg (by omega), if_pos e]; exact q (.cell 1) _ _ (Nat.zero_le _) trivial (IsT.mk2 ((g3.trans t1).tup _ _ upd_same) (.str _) (.int _)) bxf g0
      · rw [if_neg (by omega), if_neg (by omega), if_neg (by omega), if_pos e]; exact q (.prop 0) _ _ (Nat.zero_le _) trivial (IsT.mk2 ((g4.trans t1).tup _ _ upd_same) (.str _) (.int _)) bxf g0
      · rw [if_neg (by omega), if_neg (by omega), if_neg (by omega), if_neg (by omega), if_pos e]; exact q (.store 0) _ _ (Nat.zero_le _) trivial (IsT.mk2 ((g5.trans t1).tup _ _ upd_same) (.str _) (.int _)) bxf g0
      · rw [if_neg (by omega), if_neg (by omega), if_neg (by omega), if_neg (by omega), if_neg (by omega), if_pos e]; exact q (.store 1) _ _ (Nat.zero_le _) trivial (IsT.mk2 ((g6.trans t1).tup _ _ upd_same) (.str _) (.int _)) bxf g0
      · rw [if_neg (by omega), if_neg (by omega), if_neg (by omega), if_neg (by omega), if_neg (by omega), if_neg (by omega)]; exact q .index _ _ (Nat.zero_le _) trivial (IsT.mk1 ((g7.trans t1).tup _ _ upd_same) (.str _)) bxf g0
theorem ok_key {f fE fR : Addr} {fd dE dR : FuncData} {k : Nat} (F : Fun K "_law_key" "_law_key" sKey f fd)
    (GE : FnOk P w K mg base CX0 k fE dE ["box", "depth"] (spExprY 2)) (bE : Binds K dE ["box", "depth"] []) (kE : PySem.W.keepIn K (.ref fE) = true) (mE : mg "_law_expr" = some (.ref fE))
    (GR : FnOk P w K mg base CX0 k fR dR ["box", "many"] spDrawY) (bR : Binds K dR ["box", "many"] []) (kR : PySem.W.keepIn K (.ref fR) = true) (mR : mg "_law_draw" = some (.ref fR)) :
    FnOk P w K mg base CX0 (k + 1) f fd ["box"] spKeyY := by
  refine F.ok scKey (fun vs H Q E h => ?_) (fun cdv A outer s H vs Q E' hr h => ?_)
  · obtain ⟨bz, b, dg, pl, rfl, _⟩ := h
    rfl
  obtain ⟨bz, b, dg, pl, rfl, bx, q⟩ := h
  have nd := scKey.nd
  refine ⟨_, (pss_cons (ps_if (pt_cmpR op_eq (pe_call GR hr rfl mR kR bR .nil pass0 (pa_cons (pv 0) (pa_cons pe_int pa_nil))) pe_int (nomark _))
  (pss_one (ps_ret (pe_call GE hr rfl mE kE bE .nil pass0 (pa_cons (pv 0) (pa_cons pe_int pa_nil)))))
  pss_nil)
  (pss_one (ps_ret pe_non))), ?_⟩
  refine ⟨_, rfl, _, b, dg, pl, _, rfl, by decide, bx, fun kind H0 k0 k1 bx0 o0 => ⟨rfl, _, rfl, ite2 (fun c => ?_) (fun c => ?_)⟩⟩
  · exact ⟨_, rfl, _, b, dg, pl, 1, rfl, by decide, bx0, fun e v H1 d1 z1 t1 bx1 o1 => q (some e) v H1 (fun e' h => by cases h; exact ⟨Nat.le_trans d1 (by decide), Nat.le_trans (E.size_le e 1 d1) (by decide), z1⟩) t1 bx1 (o0.trans o1)⟩
  · exact q none _ H0 (fun e h => by cases h) .non bx0 o0
end
abbrev sTemplate : Stmt := topS 44
theorem scTemplate : FnScope ["box", "own", "level", "last", "free", "kind", "action", "key", "tag", "test", "yes", "count", "props", "k"] ["box", "own", "level", "last", "free"] (defScope sTemplate) := ⟨rfl, rfl, rfl, by decide +kernel, rfl, by decide +kernel, by decide +kernel⟩
section
variable {P : Program} {w : World} {K : PySem.W.Frag} {mg : Str → Option Value} {base : Heap}
theorem ok_template {f fE fR fK fN : Addr} {fd dE dR dK dN : FuncData} {k n : Nat} (F : Fun K "_law_template" "_law_template" sTemplate f fd)
    (GE : FnOk P w K mg base CX0 k fE dE ["box", "depth"] (spExprY 2)) (bE : Binds K dE ["box", "depth"] []) (kE : PySem.W.keepIn K (.ref fE) = true) (mE : mg "_law_expr" = some (.ref fE))
    (GR : FnOk P w K mg base CX0 k fR dR ["box", "many"] spDrawY) (bR : Binds K dR ["box", "many"] []) (kR : PySem.W.keepIn K (.ref fR) = true) (mR : mg "_law_draw" = some (.ref fR))
    (GK : FnOk P w K mg base CX0 k fK dK ["box"] spKeyY) (bK : Binds K dK ["box"] []) (kK : PySem.W.keepIn K (.ref fK) = true) (mK : mg "_law_key" = some (.ref fK))
    (GN : FnOk P w K mg base CX0 k fN dN ["box", "own", "level", "last", "free"] (spContentsY n)) (bN : Binds K dN ["box", "own", "level", "last", "free"] []) (kN : PySem.W.keepIn K (.ref fN) = true) (mN : mg "_law_contents" = some (.ref fN))
    (m_int : mg "int" = none) (m_len : mg "len" = none) (m_range : mg "range" = none) (m_tuple : mg "tuple" = none) :
    FnOk P w K mg base CX0 (k + 1) f fd ["box", "own", "level", "last", "free"] (spTemplateY (n + 1)) := by
  refine F.ok scTemplate (fun vs H Q E h => ?_) (fun cdv A outer s H vs Q E' hr h => ?_)
  · obtain ⟨bz, b, dg, pl, own, level, last, r, free, rfl, _⟩ := h
    rfl
  obtain ⟨bz, b, dg, pl, own, level, last, r, free, rfl, hlr, hrn, hn2, hn4, bx, q⟩ := h
  have nd := scTemplate.nd
  refine ⟨_, (pss_cons (ps_asg (pe_op op_sub (pe_ix ix_list (pv 0) pe_int (fun _ _ => rfl)) pe_int) (pg_sub (pv 0) pe_int set_list))
  (pss_cons (ps_set (i := 5) nd rfl (.inl rfl) (pe_call GR hr rfl mR kR bR .nil pass0 (pa_cons (pv 0) (pa_cons pe_int pa_nil))))
  (pss_cons (ps_if (pt_cmpR op_eq (pv 5) pe_int (nomark _))
  (pss_one (ps_ret (pe_tup (pa_cons pe_str (pa_cons (pe_ix ix_list (pe_lst (pa_cons pe_str (pa_cons pe_str (pa_cons pe_str pa_nil)))) (pe_call GR hr rfl mR kR bR .nil pass0 (pa_cons (pv 0) (pa_cons pe_int pa_nil))) (fun _ _ => rfl)) pa_nil)))))
  pss_nil)
  (pss_cons (ps_if (PW.pt (pw_and (pt_cmpR op_lt (pv 5) pe_int (nomark _)) (pw_and (pt_cmpR op_lt (pv 2) pe_int (nomark _)) (pw_and1 (pt_cmpR op_gt (pe_ix ix_list (pv 0) pe_int (fun _ _ => rfl)) pe_int (nomark _))))))
  (pss_cons (ps_set (i := 6) nd rfl (.inl rfl) (pe_ix ix_list (pe_lst (pa_cons pe_non (pa_cons pe_int (pa_cons pe_int (pa_cons pe_int pa_nil))))) (pe_call GR hr rfl mR kR bR .nil pass0 (pa_cons (pv 0) (pa_cons pe_int pa_nil))) (fun _ _ => rfl)))
  (pss_cons (ps_set (i := 7) nd rfl (.inl rfl) (pe_call GK hr rfl mK kK bK .nil pass0 (pa_cons (pv 0) pa_nil)))
  (pss_cons (ps_set (i := 8) nd rfl (.inl rfl) (pe_ix ix_list (pe_lst (pa_cons pe_str (pa_cons pe_str (pa_cons pe_str pa_nil)))) (pe_call GR hr rfl mR kR bR .nil pass0 (pa_cons (pv 0) (pa_cons pe_int pa_nil))) (fun _ _ => rfl)))
  (pss_one (ps_ret (pe_tup (pa_cons pe_str (pa_cons (pv 8) (pa_cons (pv 7) (pa_cons (pv 6) (pa_cons (pe_call GN hr rfl mN kN bN .nil pass0 (pa_cons (pv 0) (pa_cons (pv 1) (pa_cons (pe_op op_add (pv 2) pe_int) (pa_cons (pv 3) (pa_cons (pv 4) pa_nil)))))) pa_nil)))))))))))
  pss_nil)
  (pss_cons (ps_if (PW.pt (pw_and (pt_cmpR op_eq (pv 5) pe_int (nomark _)) (pw_and (pt_cmpR op_lt (pv 2) pe_int (nomark _)) (pw_and1 (pt_cmpR op_gt (pe_ix ix_list (pv 0) pe_int (fun _ _ => rfl)) pe_int (nomark _))))))
  (pss_cons (ps_set (i := 9) nd rfl (.inl rfl) (pe_call GE hr rfl mE kE bE .nil pass0 (pa_cons (pv 0) (pa_cons pe_int pa_nil))))
  (pss_cons (ps_set (i := 10) nd rfl (.inl rfl) (pe_call GN hr rfl mN kN bN .nil pass0 (pa_cons (pv 0) (pa_cons (pv 1) (pa_cons (pe_op op_add (pv 2) pe_int) (pa_cons (pv 3) (pa_cons pe_bl pa_nil)))))))
  (pss_one (ps_ret (pe_tup (pa_cons pe_str (pa_cons (pv 9) (pa_cons (pv 10) (pa_cons (pe_call GN hr rfl mN kN bN .nil pass0 (pa_cons (pv 0) (pa_cons (pv 1) (pa_cons (pe_op op_add (pv 2) pe_int) (pa_cons (pv 3) (pa_cons pe_bl pa_nil)))))) pa_nil)))))))))
  pss_nil)
  (pss_cons (ps_if (PW.pt (pw_and (pt_cmpR op_eq (pv 5) pe_int (nomark _)) (pw_and (pt_cmpR op_lt (pv 2) pe_int (nomark _)) (pw_and (pt_cmpR op_gt (pe_ix ix_list (pv 0) pe_int (fun _ _ => rfl)) pe_int (nomark _)) (pw_and1 (pt_cmpR op_gt (pe_ix ix_list (pv 0) pe_int (fun _ _ => rfl)) pe_int (nomark _)))))))
  (pss_cons (ps_asg pe_int (pg_sub (pv 0) pe_int set_list))
  (pss_cons (ps_set (i := 11) nd rfl (.inl rfl) (pe_tup (pa_cons pe_str (pa_cons (pe_tup (pa_cons pe_str (pa_cons (pe_call GE hr rfl mE kE bE .nil pass0 (pa_cons (pv 0) (pa_cons pe_int pa_nil))) (pa_cons (pe_call GE hr rfl mE kE bE .nil pass0 (pa_cons (pv 0) (pa_cons pe_int pa_nil))) pa_nil)))) (pa_cons (pe_tup (pa_cons pe_str (pa_cons (pe_call GR hr rfl mR kR bR .nil pass0 (pa_cons (pv 0) (pa_cons pe_int pa_nil))) pa_nil))) pa_nil)))))
  (pss_one (ps_ret (pe_tup (pa_cons pe_str (pa_cons (pv 11) (pa_cons (pe_call GN hr rfl mN kN bN .nil pass0 (pa_cons (pv 0) (pa_cons (pv 1) (pa_cons (pe_op op_add (pv 2) pe_int) (pa_cons (pv 3) (pa_cons pe_bl pa_nil)))))) pa_nil))))))))
  pss_nil)
  (pss_cons (ps_if (PW.pt (pw_and (pt_cmpR op_lt (pv 5) pe_int (nomark _)) (pw_and (pt_cmpR op_lt (pv 1) (pv 3) (nomark _)) (pw_and1 (pt_cmpR op_gt (pe_ix ix_list (pv 0) pe_int (fun _ _ => rfl)) pe_int (nomark _))))))
  (pss_cons (ps_asg (pe_op op_sub (pe_ix ix_list (pv 0) pe_int (fun _ _ => rfl)) pe_int) (pg_sub (pv 0) pe_int set_list))
  (pss_cons (ps_set (i := 12) nd rfl (.inl rfl) (pe_tupleOf (by rfl) m_tuple (pe_lc (own := [("k", 13)]) (g := gName 13) (tt := tYes) rfl nd (pi_range1 (by rfl) m_range (pa_cons (pe_call GR hr rfl mR kR bR .nil pass0 (pa_cons (pv 0) (pa_cons pe_int pa_nil))) pa_nil)) (blkOk_by (N := ["box", "own", "level", "last", "free", "kind", "action", "key", "tag", "test", "yes", "count", "props", "k"]) (sc := defScope sTemplate) (by decide +kernel)) (fun _ _ _ _ _ => (pg_name (i := 13) nd rfl (.inl rfl))) (fun _ _ _ _ _ => pts_nil) (fun _ _ _ _ _ => (pe_call GE hr rfl mE kE bE .nil pass0 (pa_cons (pv 0) (pa_cons pe_int pa_nil)))))))
  (pss_one (ps_ret (pe_tup (pa_cons pe_str (pa_cons (pe_op op_add (pe_op op_add (pv 1) pe_int) (pe_call GR hr rfl mR kR bR .nil pass0 (pa_cons (pv 0) (pa_cons (pe_op op_sub (pv 3) (pv 1)) pa_nil)))) (pa_cons (pe_call GK hr rfl mK kK bK .nil pass0 (pa_cons (pv 0) pa_nil)) (pa_cons (pv 12) pa_nil)))))))))
  pss_nil)
  (pss_cons (ps_if (PW.pt (pw_and (pt_cmpR op_eq (pv 5) pe_int (nomark _)) (pw_and (pt_cmpR op_eq (pv 1) pe_int (nomark _)) (pw_and (pt_val (pv 4)) (pw_and1 (pt_cmpR op_gt (pe_callB call_len_seq (by rfl) m_len PySem.boot_len (pa_cons (pe_ix ix_list (pv 0) pe_int (fun _ _ => rfl)) pa_nil)) pe_int (nomark _)))))))
  (pss_one (ps_ret (pe_tup (pa_cons pe_str (pa_cons (pe_bm0 PySem.F.plainAttrs_list PySem.F.slot_list_pop PySem.F.type_list_pop mt_pop (pe_ix ix_list (pv 0) pe_int (fun _ _ => rfl))) pa_nil)))))
  pss_nil)
  (pss_cons (ps_if (pt_cmpR op_eq (pv 5) pe_int (nomark _))
  (pss_one (ps_ret (pe_tup (pa_cons pe_str (pa_cons pe_str (pa_cons (pe_call GR hr rfl mR kR bR .nil pass0 (pa_cons (pv 0) (pa_cons pe_int pa_nil))) pa_nil))))))
  pss_nil)
  (pss_one (ps_ret (pe_tup (pa_cons pe_str (pa_cons (pe_call GE hr rfl mE kE bE .nil pass0 (pa_cons (pv 0) (pa_cons pe_int pa_nil))) pa_nil)))))))))))))), ?_⟩
  obtain ⟨at', n3, hb⟩ := bx.get
  refine ⟨_, rfl, b, _, _, _, rfl, rfl, SqL.of hb, at2, _, _, rfl, rfl, ?_⟩
  refine ⟨_, rfl, b, _, 2, 2, rfl, rfl, hb, rfl, ?_⟩
  have bxa := bx.put at' (bz.n2 - 1) n3 bz.n4
  have oa : Oth [b, pl] H (upd H b (.lst [.ref dg, .int (at' : Int), .int (bz.n2 - 1), .int n3, .int bz.n4, .ref pl])) := Oth.put (by simp) hb
  refine ⟨_, rfl, _, b, dg, pl, _, rfl, by decide, bxa, fun kind H0 k0 k1 bx0 o0 => ?_⟩
  have o00 : Oth [b, pl] H H0 := oa.trans o0.two
  clear bxa
  have hz2 : (0 : Int) ≤ bz.n2 - 1 := by omega
  -- text
  refine ⟨_, rfl, rfl, _, rfl, ite2 (fun c => ?text) (fun c => ?_)⟩
  case text =>
    refine ⟨sz, fun l hl => ⟨_, rfl, _, b, dg, pl, _, rfl, by decide, bx0.new hl, fun r1 H1 l1 u1 bx1 o1 => ?_⟩⟩
    obtain ⟨v, vm, hv⟩ := at_mem (xs := [.str "a", .str "b c", .str "7"]) l1 u1
    refine ⟨l, _, _, _, rfl, rfl, SqL.of (bx0.lit hl o1), hv, sz, fun p hp => ?_⟩
    obtain ⟨s, rfl, hs1⟩ : ∃ s, v = .str s ∧ (s = "a" ∨ s = "b c" ∨ s = "7") := by
      simp only [List.mem_cons, List.not_mem_nil, or_false] at vm
      rcases vm with e | e | e
      · exact ⟨_, e, .inl rfl⟩
      · exact ⟨_, e, .inr (.inl rfl)⟩
      · exact ⟨_, e, .inr (.inr rfl)⟩
    exact q ⟨bz.n2 - 1, bz.n4, bz.ps⟩ (.text s) _ _ (Nat.zero_le _) (by simp only [Tp.cnt]; omega) (by simp only []; omega) (by simp only [Tp.ech]; omega) hn4 (List.Perm.refl _) (hs1.elim .inl fun z => .inr (z.elim .inl fun y => .inr (.inl y))) (.mk2 upd_same (.str _) (.str _)) (bx1.new hp) (o00.trans ((Oth.new hl).trans (o1.two.trans (Oth.new hp))))
  obtain ⟨a0, m3, hb0⟩ := bx0.get
  -- box
  refine (fun nx => ⟨_, rfl, _, _, rfl, rfl, _, rfl, ite2 (fun c1 => ⟨_, rfl, _, _, rfl, rfl, _, rfl, ite2 (fun c2 => ⟨_, rfl, b, _, _, _, rfl, rfl, SqL.of hb0, at2, _, _, rfl, rfl, _, rfl, ite2 (fun c3 => ?tbox) (fun _ => nx)⟩) (fun _ => iteF nx)⟩) (fun _ => iteF nx)⟩) ?_
  case tbox =>
    have hl3 : (level : Int) < 3 := of_decide_eq_true c2
    obtain ⟨r', rfl⟩ : ∃ r', r = r' + 1 := ⟨r - 1, by omega⟩
    refine ⟨sz, fun l hl => ⟨_, rfl, _, b, dg, pl, _, rfl, by decide, bx0.new hl, fun r1 H1 l1 u1 bx1 o1 => ?_⟩⟩
    obtain ⟨va, vam, hva⟩ := at_mem (xs := [.non, .int 0, .int 1, .int 2]) l1 u1
    obtain ⟨act, ta, ha16⟩ : ∃ act : Option Nat, (∀ H', IsT H' (actT act) va) ∧ ∀ n ∈ act, n ≤ 2 := by
      simp only [List.mem_cons, List.not_mem_nil, or_false] at vam
      rcases vam with e | e | e | e <;> rw [e]
      · exact ⟨none, fun _ => .non, by simp⟩
      · exact ⟨some 0, fun _ => .int _, by simp⟩
      · exact ⟨some 1, fun _ => .int _, by simp⟩
      · exact ⟨some 2, fun _ => .int _, by simp⟩
    refine ⟨l, _, _, _, rfl, rfl, SqL.of (bx0.lit hl o1), hva, ?_⟩
    refine ⟨_, rfl, _, b, dg, pl, rfl, bx1, fun key vk H2 dk tk bx2 o2 => ?_⟩
    refine ⟨sz, fun l2 hl2 => ⟨_, rfl, _, b, dg, pl, _, rfl, by decide, bx2.new hl2, fun r3 H3 l3 u3 bx3 o3 => ?_⟩⟩
    obtain ⟨vt, vtm, hvt⟩ := at_mem (xs := [.str "p", .str "div", .str "li"]) l3 u3
    obtain ⟨tag, rfl, hs1⟩ : ∃ s, vt = .str s ∧ (s = "p" ∨ s = "div" ∨ s = "li") := by
      simp only [List.mem_cons, List.not_mem_nil, or_false] at vtm
      rcases vtm with e | e | e
      · exact ⟨_, e, .inl rfl⟩
      · exact ⟨_, e, .inr (.inl rfl)⟩
      · exact ⟨_, e, .inr (.inr rfl)⟩
    refine ⟨l2, _, _, _, rfl, rfl, SqL.of (bx2.lit hl2 o3), hvt, ?_⟩
    refine ⟨_, rfl, _, rfl, _, rfl, _, rfl, _, rfl, _, rfl, _, _, rfl, rfl, _, rfl, _, rfl, ⟨bz.n2 - 1, bz.n4, bz.ps⟩, b, dg, pl, own, level + 1, last, r', free, rfl, by omega, by omega, hz2, hn4, bx3, fun z4 cs vc H4 d4 c4 l4 e4 g4 p4 f4 t4 bx4 o4 => ⟨sz, fun p hp => ?_⟩⟩
    have on := Oth.new (S := [b, pl]) (o := .tup [.str "box", .str tag, vk, va, vc]) hp
    have o24 := ((Oth.new hl2).trans o3.two).trans o4
    refine q z4 (.box tag key act cs) _ _ (by simp only [Tp.dep]; omega) (by simp only [Tp.cnt] at c4 ⊢; omega) l4 (by simp only [Tp.ech] at e4 ⊢; omega) g4 p4 ⟨hs1, dk, ha16, f4⟩ ?_ (bx4.new hp) (o00.trans (((Oth.new hl).trans o1.two).trans (o2.two.trans (o24.trans on))))
    exact .mk5 upd_same (.str _) (.str _) ((tk.oth o24).oth on) (ta _) (t4.oth on)
  clear c
  -- when
  refine (fun nx => ⟨_, rfl, rfl, _, rfl, ite2 (fun c1 => ⟨_, rfl, _, _, rfl, rfl, _, rfl, ite2 (fun c2 => ⟨_, rfl, b, _, _, _, rfl, rfl, SqL.of hb0, at2, _, _, rfl, rfl, _, rfl, ite2 (fun c3 => ?twhen) (fun _ => nx)⟩) (fun _ => iteF nx)⟩) (fun _ => iteF nx)⟩) ?_
  case twhen =>
    have hl3 : (level : Int) < 3 := of_decide_eq_true c2
    obtain ⟨r', rfl⟩ : ∃ r', r = r' + 1 := ⟨r - 1, by omega⟩
    refine ⟨_, rfl, _, b, dg, pl, 1, rfl, by decide, bx0, fun e1 v1 H1 d1 z1 t1 bx1 o1 => ?_⟩
    refine ⟨_, rfl, _, rfl, _, rfl, _, _, rfl, rfl, _, rfl, ⟨bz.n2 - 1, bz.n4, bz.ps⟩, b, dg, pl, own, level + 1, last, r', false, rfl, by omega, by omega, hz2, hn4, bx1, fun z2 cs vc H2 d2 c2 l2 e2 g2 p2 f2 t2 bx2 o2 => ?_⟩
    refine ⟨_, rfl, _, rfl, _, rfl, _, rfl, _, rfl, _, _, rfl, rfl, _, rfl, _, b, dg, pl, own, level + 1, last, r', false, rfl, by omega, by omega, l2, g2, bx2, fun z3 os vo H3 d3 c3' l3 e3 g3 p3 f3 t3 bx3 o3 => ⟨sz, fun p hp => ?_⟩⟩
    have on := Oth.new (S := [b, pl]) (o := .tup [.str "when", v1, vc, vo]) hp
    refine q z3 (.when e1 cs os) _ _ (by simp only [Tp.dep]; omega) (by simp only [Tp.cnt] at c2 c3' ⊢; omega) l3 (by simp only [Tp.ech] at e2 e3 ⊢; omega) g3 (by simp only [Tp.pts]; rw [List.append_assoc]; exact (List.Perm.append_left _ p3).trans p2) ⟨⟨d1, z1⟩, f2, f3⟩ ?_ (bx3.new hp) (o00.trans (o1.two.trans (o2.trans (o3.trans on))))
    exact .mk4 upd_same (.str _) (((t1.oth o2).oth o3).oth on) ((t2.oth o3).oth on) (t3.oth on)
  -- each
  refine (fun nx => ⟨_, rfl, rfl, _, rfl, ite2 (fun c1 => ⟨_, rfl, _, _, rfl, rfl, _, rfl, ite2 (fun c2 => ⟨_, rfl, b, _, _, _, rfl, rfl, SqL.of hb0, at2, _, _, rfl, rfl, _, rfl, ite2 (fun c3 => ⟨_, rfl, b, _, _, _, rfl, rfl, SqL.of hb0, at4, _, _, rfl, rfl, _, rfl, ite2 (fun c4 => ?teach) (fun _ => nx)⟩) (fun _ => iteF nx)⟩) (fun _ => iteF nx)⟩) (fun _ => iteF nx)⟩) ?_
  case teach =>
    have hl3 : (level : Int) < 3 := of_decide_eq_true c2
    obtain ⟨r', rfl⟩ : ∃ r', r = r' + 1 := ⟨r - 1, by omega⟩
    refine ⟨_, rfl, b, _, 4, 4, rfl, rfl, hb0, rfl, ?_⟩
    have bxb := bx0.put a0 (bz.n2 - 1) m3 0
    have ob : Oth [b, pl] H0 (upd H0 b (.lst [.ref dg, .int (a0 : Int), .int (bz.n2 - 1), .int m3, .int 0, .ref pl])) := Oth.put (by simp) hb0
    refine ⟨_, rfl, _, b, dg, pl, 1, rfl, by decide, bxb, fun e1 v1 H1 d1 z1 t1 bx1 o1 => ?_⟩
    refine ⟨_, rfl, _, b, dg, pl, 0, rfl, by decide, bx1, fun e2 v2 H2 d2 z2 t2 bx2 o2 => ⟨sz, fun p1 hp1 => ?_⟩⟩
    refine ⟨_, rfl, _, b, dg, pl, _, rfl, by decide, bx2.new hp1, fun r3 H3 l3 u3 bx3 o3 => ⟨sz, fun p2 hp2 => ⟨sz, fun p3 hp3 => ?_⟩⟩⟩
    have s1 := Oth.new (S := [b, pl]) (o := .tup [.str "same", v1, v2]) hp1
    have s2 := Oth.new (S := [b, pl]) (o := .tup [.str "num", .int r3]) hp2
    have s3 := Oth.new (S := [b, pl]) (o := .tup [.str "plus", .ref p1, .ref p2]) hp3
    have s13 := s1.trans (o3.two.trans (s2.trans s3))
    refine ⟨_, rfl, _, rfl, _, rfl, _, rfl, _, _, rfl, rfl, _, rfl, ⟨bz.n2 - 1, 0, bz.ps⟩, b, dg, pl, own, level + 1, last, r', false, rfl, by omega, by omega, hz2, Int.le_refl _, (bx3.new hp2).new hp3, fun z4 cs vc H4 d4 c4' l4 e4 g4 p4 f4 t4 bx4 o4 => ⟨sz, fun p hp => ?_⟩⟩
    have on := Oth.new (S := [b, pl]) (o := .tup [.str "each", .ref p3, vc]) hp
    refine q z4 (.each (.plus (.same e1 e2) (.num r3)) cs) _ _ (by simp only [Tp.dep]; omega) (by have z5 : (Tp.cnts cs : Int) + z4.n2 = bz.n2 - 1 := c4'; simp only [Tp.cnt]; omega) l4 (by have z5 : (Tp.echs cs : Int) + z4.n4 ≤ 0 := e4; simp only [Tp.ech]; have : (0 : Int) < bz.n4 := of_decide_eq_true c4; omega) g4 p4 ⟨⟨by simp only [E.depth]; omega, ⟨z1, z2⟩, l3, by omega⟩, f4⟩ ?_ (bx4.new hp) (o00.trans (ob.trans (o1.two.trans (o2.two.trans (s13.trans (o4.trans on))))))
    refine .mk3 upd_same (.str _) ?_ (t4.oth on)
    have o4n := o4.trans on
    refine .mk3 (o4n.tup _ _ upd_same) (.str _) (.mk3 ((o3.two.trans (s2.trans (s3.trans o4n))).tup _ _ upd_same) (.str _) (((t1.oth o2).oth s13).oth o4n) ((t2.oth s13).oth o4n)) (.mk2 ((s3.trans o4n).tup _ _ upd_same) (.str _) (.int _))
  -- child
  refine (fun nx => ⟨_, rfl, _, _, rfl, rfl, _, rfl, ite2 (fun c1 => ⟨_, rfl, _, rfl, _, _, rfl, rfl, _, rfl, ite2 (fun c2 => ⟨_, rfl, b, _, _, _, rfl, rfl, SqL.of hb0, at3, _, _, rfl, rfl, _, rfl, ite2 (fun c3 => ?tchild) (fun _ => nx)⟩) (fun _ => iteF nx)⟩) (fun _ => iteF nx)⟩) ?_
  case tchild =>
    have hol : (own : Int) < (last : Int) := of_decide_eq_true c2
    refine ⟨_, rfl, b, _, _, _, rfl, rfl, SqL.of hb0, at3, _, _, rfl, rfl, _, rfl, b, _, 3, 3, rfl, rfl, hb0, rfl, ?_⟩
    have bxb := bx0.put a0 (bz.n2 - 1) (m3 - 1) bz.n4
    have ob : Oth [b, pl] H0 (upd H0 b (.lst [.ref dg, .int (a0 : Int), .int (bz.n2 - 1), .int (m3 - 1), .int bz.n4, .ref pl])) := Oth.put (by simp) hb0
    refine ⟨_, rfl, _, b, dg, pl, _, rfl, by decide, bxb, fun m H1 l1 u1 bx1 o1 => ?_⟩
    have s01 := ob.trans o1.two
    refine ⟨m, rfl, by omega, by omega, fun D hD => lc_range (lo := 0) (n := m.toNat)
      (fun j H4 => By H4 b dg pl ⟨bz.n2 - 1, bz.n4, bz.ps⟩ ∧ ∃ (es : List E) (vs : List V), H4 D = some (.lst vs) ∧ Paired (IsT H4) (es.map E.toT) vs ∧ es.length = j ∧ (∀ e ∈ es, e.depth ≤ 1) ∧ (∀ e ∈ es, e.Ok) ∧ Oth [b, D] H1 H4)
      ⟨bx1.new hD, [], [], upd_same, .nil, rfl, by simp, by simp, Oth.new hD⟩ (fun j H4 hj hW => ?_) (fun H4 hW => ?_)⟩
    · obtain ⟨bx4, es, vs, hD4, pv4, ej, dj, zj, o4⟩ := hW
      have nbD : b ≠ D := bx1.nb hD
      refine ⟨rfl, ⟨_, rfl, _, b, dg, pl, 1, rfl, by decide, bx4, fun e v H5 d5 z5 t5 bx5 o5 => ?_⟩⟩
      have hD5 := o5.keep D _ (by simp [nbD.symm]) hD4
      have lv : vs.length = j := by rw [(paired_get pv4).1, List.length_map, ej]
      have op : Oth [b, D] H5 (upd H5 D (.lst (vs ++ [v]))) := Oth.put (by simp) hD5
      refine ⟨vs, hD5, small1000 (by omega), ?_, es ++ [e], vs ++ [v], upd_same, ?_, by rw [List.length_append, ej]; rfl, ?_, ?_, (o4.trans (o5.mono (by simp))).trans op⟩
      · exact bx5.oth (S := [D]) (Oth.put (by simp) hD5) (by simp [nbD]) (by simp [bx1.ndn hD]) (by simp [bx1.npn hD])
      · rw [List.map_append]
        exact paired_app (paired_oth (paired_oth pv4 o5) op) (.cons (t5.oth op) .nil)
      · intro e' he
        rcases List.mem_append.mp he with h | h
        · exact dj e' h
        · rw [List.mem_singleton.mp h]; exact d5
      · intro e' he
        rcases List.mem_append.mp he with h | h
        · exact zj e' h
        · rw [List.mem_singleton.mp h]; exact z5
    · obtain ⟨bx4, es, vs, hD4, pv4, ej, dj, zj, o4⟩ := hW
      have o4' := Oth.drop2 o4 hD
      refine .inl ⟨D, _, rfl, SqL.of hD4, fun t ht => ?_⟩
      have ot := Oth.new (S := [b, pl]) (o := .tup vs) ht
      refine ⟨_, rfl, _, _, rfl, rfl, _, rfl, _, rfl, _, rfl, _, _, rfl, rfl, _, b, dg, pl, _, rfl, by omega, bx4.new ht, fun r5 H5 l5 u5 bx5 o5 => ⟨_, _, rfl, rfl, _, rfl, _, b, dg, pl, rfl, bx5, fun key vk H6 dk tk bx6 o6 => ⟨_, rfl, sz, fun p hp => ?_⟩⟩⟩
      obtain ⟨n5, rfl⟩ := Int.eq_ofNat_of_zero_le l5
      have on := Oth.new (S := [b, pl]) (o := .tup [.str "child", .int ((own : Int) + 1 + (n5 : Int)), vk, .ref t]) hp
      have o56 := o5.two.trans (o6.two.trans on)
      refine q ⟨bz.n2 - 1, bz.n4, bz.ps⟩ (.child (own + 1 + n5) key es) _ _ (Nat.zero_le _) (by simp only [Tp.cnt]; omega) (by simp only []; omega) (by simp only [Tp.ech]; omega) hn4 (List.Perm.refl _) ⟨by omega, by omega, dk, by omega, fun e he => ⟨dj e he, zj e he⟩⟩ ?_ (bx6.new hp) (o00.trans (s01.trans (o4'.two.trans (ot.trans o56))))
      exact .mk4 upd_same (.str _) (.int _) (tk.oth on) (.mk (o56.tup _ _ upd_same) (paired_oth pv4 (ot.trans o56)))
  -- part
  have hpl := bx0.parts
  dsimp only at hpl
  obtain ⟨ps, hps⟩ : ∃ ps, bz.ps = ps := ⟨_, rfl⟩
  rw [hps] at hpl
  refine (fun nx => ⟨_, rfl, rfl, _, rfl, ite2 (fun c1 => ⟨_, rfl, rfl, _, rfl, ite2 (fun c2 => ⟨_, rfl, _, rfl, ite2 (fun c3 => ⟨_, rfl, b, _, _, _, rfl, rfl, SqL.of hb0, at5, pl, _, rfl, .inl (SqL.of hpl), _, _, rfl, rfl, _, rfl, ite2 (fun c4 => ?tpart) (fun _ => nx)⟩) (fun _ => iteF nx)⟩) (fun _ => iteF nx)⟩) (fun _ => iteF nx)⟩) ?_
  case tpart =>
    have hne : (0 : Int) < (((ps.map natV).length : Nat) : Int) := of_decide_eq_true c4
    rw [List.length_map] at hne
    have hlt : ps.length - 1 < ps.length := by omega
    have g : (ps.map natV)[(ps.map natV).length - 1]? = some (natV ps[ps.length - 1]) := by rw [List.length_map, List.getElem?_map, List.getElem?_eq_getElem hlt]; rfl
    refine ⟨_, rfl, b, _, _, _, rfl, rfl, SqL.of hb0, at5, .inl ⟨rfl, _, SqL.of hpl⟩, pl, _, _, rfl, rfl, hpl, g, sz, fun p hp => ?_⟩
    have ob : Oth [b, pl] H0 (upd H0 pl (.lst (ps.map natV).dropLast)) := Oth.put (by simp) hpl
    have on := Oth.new (S := [b, pl]) (o := .tup [.str "part", natV ps[ps.length - 1]]) hp
    have bxp : By (upd H0 pl (.lst (ps.map natV).dropLast)) b dg pl ⟨bz.n2 - 1, bz.n4, ps.dropLast⟩ := by
      obtain ⟨ds, hds⟩ := bx0.dig
      exact ⟨⟨m3, ds, a0, by rw [upd_ne (bx0.npb.symm)]; exact hb0, by rw [upd_ne (fun e => bx0.nd e.symm)]; exact hds⟩, by rw [upd_same, List.map_dropLast], bx0.nd⟩
    have hne' : ps ≠ [] := by intro e; rw [e] at hne; simp at hne
    have hown : (own : Int) = 0 := V.int.inj (of_decide_eq_true c2)
    exact q ⟨bz.n2 - 1, bz.n4, ps.dropLast⟩ (.part ps[ps.length - 1]) _ _ (Nat.zero_le _) (by simp only [Tp.cnt]; omega) (by simp only []; omega) (by simp only [Tp.ech]; omega) hn4 (by
      rw [hps]
      have z : ps.dropLast ++ [ps[ps.length - 1]] = ps := by
        rw [← List.getLast_eq_getElem hne']
        exact List.dropLast_concat_getLast hne'
      simp only [Tp.pts]
      exact (List.perm_append_comm).trans (by rw [z])) ⟨by omega, c3⟩ (.mk2 upd_same (.str _) (.int _)) (bxp.new hp) (o00.trans (ob.trans on))
  -- input
  refine ⟨_, rfl, rfl, _, rfl, ite2 (fun c1 => ?_) (fun c1 => ?_)⟩
  · refine ⟨_, rfl, _, b, dg, pl, _, rfl, by decide, bx0, fun r1 H1 l1 u1 bx1 o1 => ⟨sz, fun p hp => ?_⟩⟩
    obtain ⟨n1, rfl⟩ := Int.eq_ofNat_of_zero_le l1
    exact q ⟨bz.n2 - 1, bz.n4, bz.ps⟩ (.input "q" n1) _ _ (Nat.zero_le _) (by simp only [Tp.cnt]; omega) (by simp only []; omega) (by simp only [Tp.ech]; omega) hn4 (List.Perm.refl _) ⟨rfl, by omega⟩ (.mk3 upd_same (.str _) (.str _) (.int _)) (bx1.new hp) (o00.trans (o1.two.trans (Oth.new hp)))
  · refine ⟨_, rfl, _, b, dg, pl, 1, rfl, by decide, bx0, fun e1 v1 H1 d1 z1 t1 bx1 o1 => ⟨sz, fun p hp => ?_⟩⟩
    have on := Oth.new (S := [b, pl]) (o := .tup [.str "show", v1]) hp
    exact q ⟨bz.n2 - 1, bz.n4, bz.ps⟩ (.show e1) _ _ (Nat.zero_le _) (by simp only [Tp.cnt]; omega) (by simp only []; omega) (by simp only [Tp.ech]; omega) hn4 (List.Perm.refl _) ⟨d1, z1⟩ (.mk2 upd_same (.str _) (t1.oth on)) (bx1.new hp) (o00.trans (o1.two.trans on))
end
abbrev sContents : Stmt := topS 45
theorem scContents : FnScope ["box", "own", "level", "last", "free", "rows", "k"] ["box", "own", "level", "last", "free"] (defScope sContents) := ⟨rfl, rfl, rfl, by decide +kernel, rfl, by decide +kernel, by decide +kernel⟩
abbrev sBox : Stmt := topS 48
theorem scBox : FnScope ["script", "first", "last"] ["script", "first", "last"] (defScope sBox) := ⟨rfl, rfl, rfl, by decide +kernel, rfl, by decide +kernel, by decide +kernel⟩
section
variable {P : Program} {w : World} {K : PySem.W.Frag} {mg : Str → Option Value} {base : Heap}
theorem ok_contents {f fR fT : Addr} {fd dR dT : FuncData} {k n : Nat} (F : Fun K "_law_contents" "_law_contents" sContents f fd)
    (GR : FnOk P w K mg base CX0 k fR dR ["box", "many"] spDrawY) (bR : Binds K dR ["box", "many"] []) (kR : PySem.W.keepIn K (.ref fR) = true) (mR : mg "_law_draw" = some (.ref fR))
    (GT : FnOk P w K mg base CX0 k fT dT ["box", "own", "level", "last", "free"] (spTemplateY n)) (bT : Binds K dT ["box", "own", "level", "last", "free"] []) (kT : PySem.W.keepIn K (.ref fT) = true) (mT : mg "_law_template" = some (.ref fT))
    (m_range : mg "range" = none) (m_tuple : mg "tuple" = none) :
    FnOk P w K mg base CX0 (k + 1) f fd ["box", "own", "level", "last", "free"] (spContentsY n) := by
  refine F.ok scContents (fun vs H Q E h => ?_) (fun cdv A outer s H vs Q E' hr h => ?_)
  · obtain ⟨bz, b, dg, pl, own, level, last, r, free, rfl, _⟩ := h
    rfl
  obtain ⟨bz, b, dg, pl, own, level, last, r, free, rfl, hlr, hrn, hn2, hn4, bx, q⟩ := h
  have nd := scContents.nd
  refine ⟨_, (pss_cons (ps_set (i := 5) nd rfl (.inl rfl) (pe_lst pa_nil))
  (pss_cons (ps_for PassesOwn.never rfl (pi_range1 (by rfl) m_range (pa_cons (pe_op op_add pe_int (pe_call GR hr rfl mR kR bR .nil pass0 (pa_cons (pv 0) (pa_cons pe_int pa_nil)))) pa_nil)) (pg_name (i := 6) nd rfl (.inl rfl))
  (pss_one (ps_if (pt_cmpR op_gt (pe_ix ix_list (pv 0) pe_int (fun _ _ => rfl)) pe_int (nomark _))
  (pss_one (ps_expr (pe_bm PySem.F.plainAttrs_list PySem.F.slot_list_append PySem.F.type_list_append mt_append (pv 5) (pa_cons (pe_call GT hr rfl mT kT bT .nil pass0 (pa_cons (pv 0) (pa_cons (pv 1) (pa_cons (pv 2) (pa_cons (pv 3) (pa_cons (pv 4) pa_nil)))))) pa_nil))))
  pss_nil)))
  (pss_one (ps_ret (pe_tupleOf (by rfl) m_tuple (pv 5)))))), ?_⟩
  refine ⟨sz, fun p hp => ?_⟩
  have nbp := bx.nb hp
  refine ⟨_, rfl, _, b, dg, pl, _, rfl, by decide, bx.new hp, fun m H0 l0 u0 bx0 o0 => ⟨_, _, rfl, rfl, ?_⟩⟩
  have npp := bx.npn hp
  have ndp := bx.ndn hp
  refine ⟨_, rfl, by omega, by omega, for_range (lo := 0) (n := (1 + m).toNat)
    (fun i σ H1 => ∃ (x6 : Option V) (z : Bt) (ts : List Tp) (vs : List V), σ = [some (.ref b), some (.int (own : Int)), some (.int (level : Int)), some (.int (last : Int)), some (.bl free), some (.ref p), x6] ∧ By H1 b dg pl z ∧ H1 p = some (.lst vs) ∧ Paired (IsT H1) (Tp.toTs ts) vs ∧
      Tp.deps ts ≤ r ∧ (Tp.cnts ts : Int) + z.n2 = bz.n2 ∧ 0 ≤ z.n2 ∧ (Tp.echs ts : Int) + z.n4 ≤ bz.n4 ∧ 0 ≤ z.n4 ∧ (Tp.ptss ts ++ z.ps).Perm bz.ps ∧ ts.length ≤ i ∧ Tp.Oks own last free ts ∧ Oth [b, pl, p] H H1)
    ⟨none, bz, [], [], rfl, bx0, bx.lit hp o0, .nil, Nat.zero_le _, by simp [Tp.cnts], hn2, by simp [Tp.echs], hn4, List.Perm.refl _, Nat.zero_le _, trivial, (Oth.new hp).trans (o0.mono (by simp))⟩ (fun i σ H1 hi hW => ?_) (fun σ H1 hW => ?_)⟩
  · obtain ⟨x6, z, ts, vs, rfl, bx1, hp1, pv, d1, c1, g1, e1, k1, p1, l1, f1, o1⟩ := hW
    obtain ⟨a1, m3, hb1⟩ := bx1.get
    refine ⟨_, rfl, b, _, _, _, rfl, rfl, SqL.of hb1, at2, _, _, rfl, rfl, _, rfl, ite2 (fun c => ?_) (fun c => ?_)⟩
    · have cz : (0 : Int) < z.n2 := of_decide_eq_true c
      refine ⟨_, rfl, .inl ⟨rfl, _, SqL.of hp1⟩, _, rfl, _, rfl, _, rfl, _, rfl, _, rfl, z, b, dg, pl, own, level, last, r, free, rfl, hlr, hrn, cz, k1, bx1, fun z2 t v H2 d2 c2 g2 e2 k2 p2 f2 t2 bx2 o2 => ?_⟩
      have hp2 := o2.keep p _ (by simp [nbp.symm, npp.symm]) hp1
      have lv : vs.length = ts.length := by rw [(paired_get pv).1, Tp.toTs_map, List.length_map]
      have op : Oth [p] H2 (upd H2 p (.lst (vs ++ [v]))) := Oth.put (by simp) hp2
      refine ⟨p, _, _, rfl, rfl, hp2, Nat.lt_of_le_of_lt (by omega : vs.length ≤ 1000) (by decide), ?_⟩
      refine ⟨_, z2, ts ++ [t], vs ++ [v], rfl, bx2.oth op (by simp [nbp]) (by simp [ndp]) (by simp [npp]), upd_same, ?_, ?_, ?_, g2, ?_, k2, ?_, by simp; omega, oks_app (b := [t]) ⟨f2, trivial⟩ _ f1, o1.trans ((o2.mono (by simp)).trans (op.mono (by simp)))⟩
      · rw [toTs_app]
        exact paired_app (paired_oth (paired_oth pv o2) op) (.cons (t2.oth op) .nil)
      · rw [deps_app]; simp only [Tp.deps]; omega
      · rw [cnts_app]; simp only [Tp.cnts]; omega
      · rw [echs_app]; simp only [Tp.echs]; omega
      · rw [ptss_app, List.append_assoc]
        simp only [Tp.ptss, List.append_nil]
        exact (List.Perm.append_left _ p2).trans p1
    · exact ⟨_, z, ts, vs, rfl, bx1, hp1, pv, d1, c1, g1, e1, k1, p1, by omega, f1, o1⟩
  · obtain ⟨x6, z, ts, vs, rfl, bx1, hp1, pv, d1, c1, g1, e1, k1, p1, l1, f1, o1⟩ := hW
    refine ⟨_, rfl, .inl ⟨p, _, rfl, SqL.of hp1, fun t ht => ?_⟩⟩
    have ot := Oth.new (S := [b, pl]) (o := .tup vs) ht
    refine q z ts _ _ d1 c1 g1 e1 k1 p1 f1 (.mk upd_same (paired_oth pv ot)) (bx1.new ht) (Oth.trans ?_ ot)
    exact Oth.drop (p := p) (o1.mono (by simp)) hp
theorem ok_box {f fD : Addr} {fd dD : FuncData} {k : Nat} (F : Fun K "_law_box" "_law_box" sBox f fd)
    (GD : FnOk P w K mg base CX0 k fD dD ["script", "first", "last"] (spDigits K)) (bD : Binds K dD ["script", "first", "last"] []) (kD : PySem.W.keepIn K (.ref fD) = true) (mD : mg "_law_digits" = some (.ref fD)) :
    FnOk P w K mg base CX0 (k + 1) f fd ["script", "first", "last"] (spBoxY K) := by
  refine F.ok scBox (fun vs H Q E h => ?_) (fun cdv A outer s H vs Q E' hr h => ?_)
  · obtain ⟨a, ns, i, j, rfl, _⟩ := h
    rfl
  obtain ⟨a, ns, i, j, rfl, hS, hi, hj, q⟩ := h
  have nd := scBox.nd
  refine ⟨_, (pss_one (ps_ret (pe_lst (pa_cons (pe_call GD hr rfl mD kD bD .nil pass0 (pa_cons (pv 0) (pa_cons (pv 1) (pa_cons (pv 2) pa_nil)))) (pa_cons pe_int (pa_cons pe_int (pa_cons pe_int (pa_cons pe_int (pa_cons (pe_lst pa_nil) pa_nil))))))))), ?_⟩
  refine ⟨_, rfl, _, rfl, _, rfl, a, ns, i, j, rfl, hS, hi, hj, fun d H1 ds hd o1 e1 => ⟨sz, fun pl hp => ⟨sz, fun b hb => ?_⟩⟩⟩
  have ndp : d ≠ pl := ne_of_none e1 hp
  have o2 := Oth.new (S := []) (o := .lst []) hp
  have ndb : d ≠ b := ne_of_none (o2.keep d _ (by simp) e1) hb
  have npb : pl ≠ b := ne_of_none (upd_same : (upd H1 pl (.lst [])) pl = _) hb
  have o3 := Oth.new (S := []) (o := .lst [.ref d, .int 0, .int 0, .int 0, .int 0, .ref pl]) hb
  refine q b d pl _ ?_ (o1.trans (o2.trans o3)) ⟨⟨0, ds, 0, upd_same, o3.keep d _ (by simp) (o2.keep d _ (by simp) e1)⟩, o3.keep pl _ (by simp) upd_same, ndp.symm⟩
  cases e : H b with
  | none => rfl
  | some o => rw [o2.keep b _ (by simp) (o1.keep b _ (by simp) e)] at hb; cases hb
end
abbrev sActions : Stmt := topS 46
theorem scActions : FnScope ["box", "actions", "k", "steps", "j", "kind"] ["box"] (defScope sActions) := ⟨rfl, rfl, rfl, by decide +kernel, rfl, by decide +kernel, by decide +kernel⟩
section
variable {P : Program} {w : World} {K : PySem.W.Frag} {mg : Str → Option Value} {base : Heap}
theorem ok_actions {f fE fR : Addr} {fd dE dR : FuncData} {k : Nat} (F : Fun K "_law_actions" "_law_actions" sActions f fd)
    (GE : FnOk P w K mg base CX0 k fE dE ["box", "depth"] (spExprY 2)) (bE : Binds K dE ["box", "depth"] []) (kE : PySem.W.keepIn K (.ref fE) = true) (mE : mg "_law_expr" = some (.ref fE))
    (GR : FnOk P w K mg base CX0 k fR dR ["box", "many"] spDrawY) (bR : Binds K dR ["box", "many"] []) (kR : PySem.W.keepIn K (.ref fR) = true) (mR : mg "_law_draw" = some (.ref fR))
    (m_range : mg "range" = none) (m_tuple : mg "tuple" = none) :
    FnOk P w K mg base CX0 (k + 1) f fd ["box"] spActionsY := by
  refine F.ok scActions (fun vs H Q E h => ?_) (fun cdv A outer s H vs Q E' hr h => ?_)
  · obtain ⟨bz, b, dg, pl, rfl, _⟩ := h
    rfl
  obtain ⟨bz, b, dg, pl, rfl, bx, q⟩ := h
  have nd := scActions.nd
  refine ⟨_, (pss_cons (ps_set (i := 1) nd rfl (.inl rfl) (pe_lst pa_nil))
  (pss_cons (ps_for PassesOwn.never rfl (pi_range1 (by rfl) m_range (pa_cons pe_int pa_nil)) (pg_name (i := 2) nd rfl (.inl rfl))
  (pss_cons (ps_set (i := 3) nd rfl (.inl rfl) (pe_lst pa_nil))
  (pss_cons (ps_for PassesOwn.never rfl (pi_range1 (by rfl) m_range (pa_cons (pe_op op_add pe_int (pe_call GR hr rfl mR kR bR .nil pass0 (pa_cons (pv 0) (pa_cons pe_int pa_nil)))) pa_nil)) (pg_name (i := 4) nd rfl (.inl rfl))
  (pss_cons (ps_set (i := 5) nd rfl (.inl rfl) (pe_call GR hr rfl mR kR bR .nil pass0 (pa_cons (pv 0) (pa_cons pe_int pa_nil))))
  (pss_one (ps_if (pt_cmpR op_lt (pv 5) pe_int (nomark _))
  (pss_one (ps_expr (pe_bm PySem.F.plainAttrs_list PySem.F.slot_list_append PySem.F.type_list_append mt_append (pv 3) (pa_cons (pe_tup (pa_cons pe_str (pa_cons (pe_call GR hr rfl mR kR bR .nil pass0 (pa_cons (pv 0) (pa_cons pe_int pa_nil))) (pa_cons (pe_call GE hr rfl mE kE bE .nil pass0 (pa_cons (pv 0) (pa_cons pe_int pa_nil))) pa_nil)))) pa_nil))))
  (pss_one (ps_if (pt_cmpR op_lt (pv 5) pe_int (nomark _))
  (pss_one (ps_expr (pe_bm PySem.F.plainAttrs_list PySem.F.slot_list_append PySem.F.type_list_append mt_append (pv 3) (pa_cons (pe_tup (pa_cons pe_str (pa_cons (pe_call GR hr rfl mR kR bR .nil pass0 (pa_cons (pv 0) (pa_cons pe_int pa_nil))) (pa_cons (pe_call GE hr rfl mE kE bE .nil pass0 (pa_cons (pv 0) (pa_cons pe_int pa_nil))) pa_nil)))) pa_nil))))
  (pss_one (ps_expr (pe_bm PySem.F.plainAttrs_list PySem.F.slot_list_append PySem.F.type_list_append mt_append (pv 3) (pa_cons (pe_tup (pa_cons pe_str (pa_cons (pe_call GR hr rfl mR kR bR .nil pass0 (pa_cons (pv 0) (pa_cons pe_int pa_nil))) pa_nil))) pa_nil))))))))))
  (pss_one (ps_expr (pe_bm PySem.F.plainAttrs_list PySem.F.slot_list_append PySem.F.type_list_append mt_append (pv 1) (pa_cons (pe_tupleOf (by rfl) m_tuple (pv 3)) pa_nil)))))))
  (pss_one (ps_ret (pe_tupleOf (by rfl) m_tuple (pv 1)))))), ?_⟩
  refine ⟨sz, fun p hp => ?_⟩
  have nbp := bx.nb hp
  have npp := bx.npn hp
  have ndp := bx.ndn hp
  refine ⟨_, rfl, by decide, by decide, for_range (lo := 0) (n := 2)
    (fun i σ H1 => ∃ (x2 x3 x4 x5 : Option V) (vs : List V) (ts : List (List St1)), σ = [some (.ref b), some (.ref p), x2, x3, x4, x5] ∧ By H1 b dg pl bz ∧ H1 p = some (.lst vs) ∧ Paired (IsT H1) (ts.map stepsT) vs ∧ (∀ r ∈ ts, r.length ≤ 2 ∧ ∀ s ∈ r, s.Ok) ∧ ts.length = i ∧ Oth [b, p] H H1)
    ⟨none, none, none, none, [], [], rfl, bx.new hp, upd_same, .nil, by simp, rfl, Oth.new hp⟩ (fun i σ H1 hi hW => ?_) (fun σ H1 hW => ?_)⟩
  · obtain ⟨x2, x3, x4, x5, vs, ts, rfl, bx1, hp1, pv, ro, lt, o1⟩ := hW
    have lv : vs.length ≤ i := by rw [(paired_get pv).1, List.length_map]; omega
    refine ⟨sz, fun p2 hp2 => ?_⟩
    have nb2 := bx1.nb hp2
    have np2 := bx1.npn hp2
    have nd2 := bx1.ndn hp2
    have npp2 : p ≠ p2 := ne_of_none hp1 hp2
    refine ⟨_, rfl, _, b, dg, pl, _, rfl, by decide, bx1.new hp2, fun m H2 l0 u0 bx2 o2 => ⟨_, _, rfl, rfl, ?_⟩⟩
    refine ⟨_, rfl, by omega, by omega, for_range (lo := 0) (n := (1 + m).toNat)
      (fun j σ H3 => ∃ (x4 x5 : Option V) (us : List V) (ks : List St1), σ = [some (.ref b), some (.ref p), some (.int (0 + (i : Int))), some (.ref p2), x4, x5] ∧ By H3 b dg pl bz ∧ H3 p2 = some (.lst us) ∧ Paired (IsT H3) (ks.map St1.toT) us ∧ (∀ s ∈ ks, s.Ok) ∧ ks.length ≤ j ∧ Oth [b, p2] H1 H3)
      ⟨x4, x5, [], [], rfl, bx2, bx1.lit hp2 o2, .nil, by simp, Nat.zero_le _, (Oth.new hp2).trans (o2.mono (by simp))⟩ (fun j σ H3 hj hW => ?_) (fun σ H3 hW => ?_)⟩
    · obtain ⟨x4, x5, us, ks, rfl, bx3, hp3, pu, ru, lk, o3⟩ := hW
      have lu : us.length ≤ j := by rw [(paired_get pu).1, List.length_map]; exact lk
      have fin : ∀ (t : St1) (v : V) (H4 : Hp), t.Ok → IsT H4 t.toT v → By H4 b dg pl bz → Oth [b] H3 H4 → H4 p2 = some (.lst us) ∧ us.length < sizeLine ∧ By (upd H4 p2 (.lst (us ++ [v]))) b dg pl bz ∧ Oth [b, p2] H1 (upd H4 p2 (.lst (us ++ [v]))) ∧ (Paired (IsT (upd H4 p2 (.lst (us ++ [v])))) ((ks ++ [t]).map St1.toT) (us ++ [v]) ∧ (∀ s ∈ ks ++ [t], s.Ok) ∧ (ks ++ [t]).length ≤ j + 1) := fun t v H4 kt tv bx4 o4 => by
        have hp4 := o4.keep p2 _ (by simp [nb2.symm]) hp3
        have op : Oth [p2] H4 (upd H4 p2 (.lst (us ++ [v]))) := Oth.put (by simp) hp4
        exact ⟨hp4, Nat.lt_of_le_of_lt (by omega : us.length ≤ 1000) (by decide), bx4.oth op (by simp [nb2]) (by simp [nd2]) (by simp [np2]), o3.trans ((o4.mono (by simp)).trans (op.mono (by simp))), by rw [List.map_append]; exact paired_app (paired_oth (paired_oth pu o4) op) (.cons (tv.oth op) .nil), fun s hs => (List.mem_append.mp hs).elim (ru s) (fun h => by rw [List.mem_singleton.mp h]; exact kt), by simp; omega⟩
      refine ⟨_, rfl, _, b, dg, pl, _, rfl, by decide, bx3, fun kind H4 l4 u4 bx4 o4 => ?_⟩
      have pair : ∀ (s : Str) (r : Int) (v : V) (H5 H6 : Hp) (t : Addr), By H6 b dg pl bz → Oth [b] H4 H6 → H6 t = none → True := fun _ _ _ _ _ _ _ _ _ => trivial
      refine ⟨_, rfl, _, _, rfl, rfl, _, rfl, ite2 (fun c => ?_) (fun c => ⟨_, rfl, _, _, rfl, rfl, _, rfl, ite2 (fun c => ?_) (fun c => ?_)⟩)⟩
      · have hp4 := o4.keep p2 _ (by simp [nb2.symm]) hp3
        refine ⟨_, rfl, .inl ⟨rfl, _, SqL.of hp4⟩, _, rfl, _, b, dg, pl, _, rfl, by decide, bx4, fun r5 H5 l5 u5 bx5 o5 => ⟨_, rfl, _, b, dg, pl, 1, rfl, by decide, bx5, fun e v H6 d6 z6 t6 bx6 o6 => ⟨sz, fun t ht => ?_⟩⟩⟩
        obtain ⟨n5, rfl⟩ := Int.eq_ofNat_of_zero_le l5
        obtain ⟨g1, g2, g3, g4, g5⟩ := fin (.set n5 e) (.ref t) _ ⟨by omega, d6, z6⟩ (.mk3 upd_same (.str _) (.int _) (t6.oth (Oth.new (S := []) ht))) (bx6.new (o := .tup [.str "set", .int (n5 : Int), v]) ht) (o4.trans (o5.trans (o6.trans (Oth.new ht))))
        exact ⟨p2, _, _, rfl, rfl, g1, g2, _, _, _, _, rfl, g3, upd_same, g5.1, g5.2.1, g5.2.2, g4⟩
      · have hp4 := o4.keep p2 _ (by simp [nb2.symm]) hp3
        refine ⟨_, rfl, .inl ⟨rfl, _, SqL.of hp4⟩, _, rfl, _, b, dg, pl, _, rfl, by decide, bx4, fun r5 H5 l5 u5 bx5 o5 => ⟨_, rfl, _, b, dg, pl, 1, rfl, by decide, bx5, fun e v H6 d6 z6 t6 bx6 o6 => ⟨sz, fun t ht => ?_⟩⟩⟩
        obtain ⟨n5, rfl⟩ := Int.eq_ofNat_of_zero_le l5
        obtain ⟨g1, g2, g3, g4, g5⟩ := fin (.put n5 e) (.ref t) _ ⟨by omega, d6, z6⟩ (.mk3 upd_same (.str _) (.int _) (t6.oth (Oth.new (S := []) ht))) (bx6.new (o := .tup [.str "put", .int (n5 : Int), v]) ht) (o4.trans (o5.trans (o6.trans (Oth.new ht))))
        exact ⟨p2, _, _, rfl, rfl, g1, g2, _, _, _, _, rfl, g3, upd_same, g5.1, g5.2.1, g5.2.2, g4⟩
      · have hp4 := o4.keep p2 _ (by simp [nb2.symm]) hp3
        refine ⟨_, rfl, .inl ⟨rfl, _, SqL.of hp4⟩, _, rfl, _, b, dg, pl, _, rfl, by decide, bx4, fun r5 H5 l5 u5 bx5 o5 => ⟨sz, fun t ht => ?_⟩⟩
        obtain ⟨n5, rfl⟩ := Int.eq_ofNat_of_zero_le l5
        obtain ⟨g1, g2, g3, g4, g5⟩ := fin (.up n5) (.ref t) _ (by show n5 ≤ 1; omega) (.mk2 upd_same (.str _) (.int _)) (bx5.new (o := .tup [.str "up", .int (n5 : Int)]) ht) (o4.trans (o5.trans (Oth.new ht)))
        exact ⟨p2, _, _, rfl, rfl, g1, g2, _, _, _, _, rfl, g3, upd_same, g5.1, g5.2.1, g5.2.2, g4⟩
    · obtain ⟨x4, x5, us, ks, rfl, bx3, hp3, pu, ru, lk, o3⟩ := hW
      have lu : us.length ≤ 2 := by rw [(paired_get pu).1, List.length_map]; omega
      have o3' := Oth.drop2 o3 hp2
      have hpk := o3'.keep p _ (by simp [nbp.symm]) hp1
      refine ⟨_, rfl, .inl ⟨rfl, _, SqL.of hpk⟩, _, rfl, .inl ⟨p2, _, rfl, SqL.of hp3, fun t ht => ?_⟩⟩
      have ot := Oth.new (S := [b]) (o := .tup us) ht
      have hpt := ot.keep p _ (by simp [nbp.symm]) hpk
      have op : Oth [p] (upd H3 t (.tup us)) (upd (upd H3 t (.tup us)) p (.lst (vs ++ [.ref t]))) := Oth.put (by simp) hpt
      refine ⟨p, _, _, rfl, rfl, hpt, Nat.lt_of_le_of_lt (by omega : vs.length ≤ 1000) (by decide), ?_⟩
      exact ⟨_, _, _, _, vs ++ [.ref t], ts ++ [ks], rfl, (bx3.new ht).oth op (by simp [nbp]) (by simp [ndp]) (by simp [npp]), upd_same, by rw [List.map_append]; exact paired_app (paired_oth (paired_oth (paired_oth pv o3') ot) op) (.cons (.mk (op.tup _ _ upd_same) (paired_oth (paired_oth pu ot) op)) .nil), fun r hr => (List.mem_append.mp hr).elim (ro r) (fun h => by rw [List.mem_singleton.mp h]; exact ⟨by omega, ru⟩), by simp; omega, o1.trans ((o3'.mono (by simp)).trans ((ot.mono (by simp)).trans (op.mono (by simp))))⟩
  · obtain ⟨x2, x3, x4, x5, vs, ts, rfl, bx1, hp1, pv, ro, lt, o1⟩ := hW
    refine ⟨_, rfl, .inl ⟨p, _, rfl, SqL.of hp1, fun t ht => ?_⟩⟩
    have ot := Oth.new (S := []) (o := .tup vs) ht
    exact q ts _ _ ⟨lt, ro⟩ (.mk upd_same (paired_oth pv ot)) (bx1.new ht) ((Oth.drop2 o1 hp).trans (Oth.new ht))
end
abbrev sProgram : Stmt := topS 47
theorem scProgram : FnScope ["box", "many", "parts", "components", "k", "cells", "contents", "store", "j"] ["box"] (defScope sProgram) := ⟨rfl, rfl, rfl, by decide +kernel, rfl, by decide +kernel, by decide +kernel⟩
section
variable {P : Program} {w : World} {K : PySem.W.Frag} {mg : Str → Option Value} {base : Heap}
theorem ok_program {f fR fN fA : Addr} {fd dR dN dA : FuncData} {k : Nat} (F : Fun K "_law_program" "_law_program" sProgram f fd)
    (GR : FnOk P w K mg base CX0 k fR dR ["box", "many"] spDrawY) (bR : Binds K dR ["box", "many"] []) (kR : PySem.W.keepIn K (.ref fR) = true) (mR : mg "_law_draw" = some (.ref fR))
    (GN : FnOk P w K mg base CX0 k fN dN ["box", "own", "level", "last", "free"] (spContentsY 4)) (bN : Binds K dN ["box", "own", "level", "last", "free"] []) (kN : PySem.W.keepIn K (.ref fN) = true) (mN : mg "_law_contents" = some (.ref fN))
    (GA : FnOk P w K mg base CX0 k fA dA ["box"] spActionsY) (bA : Binds K dA ["box"] []) (kA : PySem.W.keepIn K (.ref fA) = true) (mA : mg "_law_actions" = some (.ref fA))
    (m_range : mg "range" = none) (m_tuple : mg "tuple" = none) (m_list : mg "list" = none) (m_len : mg "len" = none) (m_max : mg "max" = none) :
    FnOk P w K mg base CX0 (k + 1) f fd ["box"] spProgramY := by
  refine F.ok scProgram (fun vs H Q E h => ?_) (fun cdv A outer s H vs Q E' hr h => ?_)
  · obtain ⟨bz, b, dg, pl, rfl, _⟩ := h
    rfl
  obtain ⟨bz, b, dg, pl, rfl, bx, q⟩ := h
  have nd := scProgram.nd
  refine ⟨_, (pss_cons (ps_set (i := 1) nd rfl (.inl rfl) (pe_op op_add pe_int (pe_call GR hr rfl mR kR bR .nil pass0 (pa_cons (pv 0) (pa_cons pe_int pa_nil)))))
  (pss_cons (ps_setLc (i := 2) (own := [("k", 4)]) (g := gName 4) (tt := tYes) rfl nd rfl rfl (sw_true rfl rfl rfl (by decide +kernel)) (pi_range1 (by rfl) m_range (pa_cons (pe_call GR hr rfl mR kR bR .nil pass0 (pa_cons (pv 0) (pa_cons pe_int pa_nil))) pa_nil)) (blkOk_by (N := ["box", "many", "parts", "components", "k", "cells", "contents", "store", "j"]) (sc := defScope sProgram) (by decide +kernel)) (fun _ _ _ _ _ => (pg_name (i := 4) nd rfl (.inl rfl))) (fun _ _ _ _ _ => pts_nil) (fun _ _ _ _ _ => (pe_op op_add pe_int (pe_call GR hr rfl mR kR bR .nil pass0 (pa_cons (pv 0) (pa_cons pe_int pa_nil))))))
  (pss_cut (ps_if (pt_cmpR op_gt (pe_callB call_len_seq (by rfl) m_len PySem.boot_len (pa_cons (pv 2) pa_nil)) pe_int (nomark _))
  (pss_one (ps_set (i := 1) nd rfl (.inl rfl) (pe_callB (call_max2 rfl) (by rfl) m_max bo_max (pa_cons (pv 1) (pa_cons pe_int pa_nil)))))
  pss_nil)
  (pss_cons (ps_set (i := 3) nd rfl (.inl rfl) (pe_lst pa_nil))
  (pss_cons (ps_for PassesOwn.never rfl (pi_range1 (by rfl) m_range (pa_cons (pv 1) pa_nil)) (pg_name (i := 4) nd rfl (.inl rfl))
  (pss_cons (ps_asg pe_int (pg_sub (pv 0) pe_int set_list))
  (pss_cons (ps_asg pe_int (pg_sub (pv 0) pe_int set_list))
  (pss_cons (ps_asg pe_int (pg_sub (pv 0) pe_int set_list))
  (pss_cons (ps_asg (pe_listRg rfl (by rfl) m_list (prg_1 (by rfl) m_range (pe_callB call_len_seq (by rfl) m_len PySem.boot_len (pa_cons (pv 2) pa_nil)))) (pg_sub (pv 0) pe_int set_list))
  (pss_cut (ps_if (pt_cmpR op_gt (pv 4) pe_int (nomark _))
  (pss_one (ps_asg (pe_lst pa_nil) (pg_sub (pv 0) pe_int set_list)))
  pss_nil)
  (pss_cons (ps_set (i := 5) nd rfl (.inl rfl) (pe_tupleOf (by rfl) m_tuple (pe_lc (own := [("j", 8)]) (g := gName 8) (tt := tYes) rfl nd (pi_range1 (by rfl) m_range (pa_cons (pe_call GR hr rfl mR kR bR .nil pass0 (pa_cons (pv 0) (pa_cons pe_int pa_nil))) pa_nil)) (blkOk_by (N := ["box", "many", "parts", "components", "k", "cells", "contents", "store", "j"]) (sc := defScope sProgram) (by decide +kernel)) (fun _ _ _ _ _ => (pg_name (i := 8) nd rfl (.inl rfl))) (fun _ _ _ _ _ => pts_nil) (fun _ _ _ _ _ => (pe_call GR hr rfl mR kR bR .nil pass0 (pa_cons (pv 0) (pa_cons pe_int pa_nil)))))))
  (pss_cons (ps_set (i := 6) nd rfl (.inl rfl) (pe_op op_catA (pe_call GN hr rfl mN kN bN .nil pass0 (pa_cons (pv 0) (pa_cons (pv 4) (pa_cons pe_int (pa_cons (pe_op op_sub (pv 1) pe_int) (pa_cons pe_bl pa_nil)))))) (pe_call GN hr rfl mN kN bN .nil pass0 (pa_cons (pv 0) (pa_cons (pv 4) (pa_cons pe_int (pa_cons (pe_op op_sub (pv 1) pe_int) (pa_cons pe_bl pa_nil))))))))
  (pss_cons (ps_set (i := 6) nd rfl (.inl rfl) (pe_op op_catA (pv 6) (pe_tupleOf (by rfl) m_tuple (pe_lc (own := [("j", 8)]) (g := gName 8) (tt := tYes) rfl nd (pi_list (pe_ix ix_list (pv 0) pe_int (fun _ _ => rfl))) (blkOk_by (N := ["box", "many", "parts", "components", "k", "cells", "contents", "store", "j"]) (sc := defScope sProgram) (by decide +kernel)) (fun _ _ _ _ _ => (pg_name (i := 8) nd rfl (.inl rfl))) (fun _ _ _ _ _ => pts_nil) (fun _ _ _ _ _ => (pe_tup (pa_cons pe_str (pa_cons (pv 8) pa_nil))))))))
  (pss_one (ps_expr (pe_bm PySem.F.plainAttrs_list PySem.F.slot_list_append PySem.F.type_list_append mt_append (pv 3) (pa_cons (pe_tup (pa_cons pe_str (pa_cons (pv 5) (pa_cons (pv 6) (pa_cons (pe_call GA hr rfl mA kA bA .nil pass0 (pa_cons (pv 0) pa_nil)) pa_nil))))) pa_nil)))))))))))))
  (pss_cons (ps_set (i := 7) nd rfl (.inl rfl) (pe_tupleOf (by rfl) m_tuple (pe_lc (own := [("k", 4)]) (g := gName 4) (tt := tYes) rfl nd (pi_range1 (by rfl) m_range (pa_cons (pe_call GR hr rfl mR kR bR .nil pass0 (pa_cons (pv 0) (pa_cons pe_int pa_nil))) pa_nil)) (blkOk_by (N := ["box", "many", "parts", "components", "k", "cells", "contents", "store", "j"]) (sc := defScope sProgram) (by decide +kernel)) (fun _ _ _ _ _ => (pg_name (i := 4) nd rfl (.inl rfl))) (fun _ _ _ _ _ => pts_nil) (fun _ _ _ _ _ => (pe_call GR hr rfl mR kR bR .nil pass0 (pa_cons (pv 0) (pa_cons pe_int pa_nil)))))))
  (pss_one (ps_ret (pe_tup (pa_cons pe_str (pa_cons (pe_tupleOf (by rfl) m_tuple (pv 3)) (pa_cons (pv 7) (pa_cons (pe_tupleOf (by rfl) m_tuple (pv 2)) pa_nil))))))))))))), ?_⟩
  refine ⟨_, rfl, _, b, dg, pl, _, rfl, by decide, bx, fun m H0 l0 u0 bx0 o0 => ⟨_, _, rfl, rfl, ?_⟩⟩
  refine ⟨_, rfl, _, b, dg, pl, _, rfl, by decide, bx0, fun n H1 l1 u1 bx1 o1 => ⟨n, rfl, by omega, by omega, fun D hD => lc_range (lo := 0) (n := n.toNat)
    (fun j H2 => By H2 b dg pl bz ∧ ∃ vs : List Nat, H2 D = some (.lst (vs.map natV)) ∧ vs.length = j ∧ (∀ n ∈ vs, 0 < n ∧ n < 3) ∧ Oth [b, D] H1 H2)
    ⟨bx1.new hD, [], upd_same, rfl, by simp, Oth.new hD⟩ (fun j H2 hj hW => ?_) (fun H2 hW => ?_)⟩⟩
  · obtain ⟨bx2, vs, hD2, lv, sv, o2⟩ := hW
    have nbD : b ≠ D := bx1.nb hD
    refine ⟨rfl, ⟨_, rfl, _, b, dg, pl, _, rfl, by decide, bx2, fun r H3 l3 u3 bx3 o3 => ⟨_, _, rfl, rfl, ?_⟩⟩⟩
    have hD3 := o3.keep D _ (by simp [nbD.symm]) hD2
    dsimp only
    rw [natV_toNat (by omega : 0 ≤ 1 + r)]
    have op : Oth [D] H3 (upd H3 D (.lst (vs.map natV ++ [natV (1 + r).toNat]))) := Oth.put (by simp) hD3
    exact ⟨_, hD3, small1000 (by rw [List.length_map]; omega), bx3.oth op (by simp [nbD]) (by simp [bx1.ndn hD]) (by simp [bx1.npn hD]), vs ++ [(1 + r).toNat], by rw [List.map_append]; exact upd_same, by rw [List.length_append, lv]; rfl, fun n hn => by
      rcases List.mem_append.mp hn with h | h
      · exact sv n h
      · rw [List.mem_singleton.mp h]; omega, o2.trans ((o3.mono (by simp)).trans (op.mono (by simp)))⟩
  obtain ⟨bx2, pvn, hD2, lpvn, spv, o2⟩ := hW
  obtain ⟨pv, hpv⟩ : ∃ pv, pv = pvn.map natV := ⟨_, rfl⟩
  rw [← hpv] at hD2
  have lpv : pv.length = n.toNat := by rw [hpv, List.length_map]; exact lpvn
  have nbD : b ≠ D := bx1.nb hD
  have o02 : Oth [b] H H2 := o0.trans (o1.trans (Oth.drop2 o2 hD))
  have lp2 : pv.length ≤ 2 := by omega
  refine ⟨fun σ H' => H' = H2 ∧ ∃ mz : Int, 1 ≤ mz ∧ mz ≤ 3 ∧ (0 < pv.length → mz = 3) ∧ σ = [some (.ref b), some (.int mz), some (.ref D), none, none, none, none, none, none], ?_, ?_⟩
  · refine ⟨_, rfl, D, pv, rfl, .inl (SqL.of hD2), _, _, rfl, rfl, _, rfl, ite2 (fun c => ?_) (fun c => ?_)⟩
    · refine ⟨_, rfl, _, _, rfl, ?_⟩
      exact ⟨rfl, if (3 : Int) > 1 + m then 3 else 1 + m, by split <;> omega, by split <;> omega, fun _ => by split <;> omega, rfl⟩
    · exact ⟨rfl, 1 + m, by omega, by omega, fun h => absurd h (by have c' : ¬ (0 : Int) < ((pv.length : Nat) : Int) := of_decide_eq_false (Bool.eq_false_iff.mpr c); omega), rfl⟩
  rintro σ H' ⟨rfl, mz, z1, z3, zp, rfl⟩
  refine ⟨sz, fun pC hC => ?_⟩
  have nbC := bx2.nb hC
  have ndC := bx2.ndn hC
  have nDC : D ≠ pC := ne_of_none hD2 hC
  refine ⟨_, rfl, mz, rfl, by omega, by omega, for_range (lo := 0) (n := mz.toNat)
    (fun i σ H3 => ∃ (x4 x5 x6 x7 x8 : Option V) (pl' : Addr) (z : Bt) (cs : List V) (cms : List Cq), σ = [some (.ref b), some (.int mz), some (.ref D), some (.ref pC), x4, x5, x6, x7, x8] ∧ By H3 b dg pl' z ∧ pl' ≠ pC ∧ H3 D = some (.lst pv) ∧ H3 pC = some (.lst cs) ∧ Paired (IsT H3) (cms.map Cq.toT) cs ∧ (∀ (j : Nat) (c : Cq), cms[j]? = some c → Cq.Ok j (mz.toNat - 1) pvn.length c) ∧ cms.length = i ∧ Oth [b, pC] H' H3)
    ⟨none, none, none, none, none, pl, bz, [], [], rfl, bx2.new hC, bx2.npn hC, by rw [upd_ne nDC]; exact hD2, upd_same, .nil, by simp, rfl, Oth.new hC⟩ (fun i σ H3 hi hW => ?_) (fun σ H3 hW => ?_)⟩
  · obtain ⟨x4, x5, x6, x7, x8, pl1, z0, cs, cms, rfl, bx3, np3, hD3, hC3, pcs, gcs, lcm, o3⟩ := hW
    have lcs : cs.length = i := by rw [(paired_get pcs).1, List.length_map]; exact lcm
    obtain ⟨a3, n3, hb3⟩ := bx3.get
    refine ⟨_, rfl, b, _, 2, 2, rfl, rfl, hb3, rfl, ?_⟩
    have bx4 := bx3.put a3 6 n3 z0.n4
    refine ⟨_, rfl, b, _, 3, 3, rfl, rfl, upd_same, rfl, ?_⟩
    have bx5 := bx4.put a3 6 2 z0.n4
    refine ⟨_, rfl, b, _, 4, 4, rfl, rfl, upd_same, rfl, ?_⟩
    have bx6 := bx5.put a3 6 2 1
    have p1 : Oth [b] H3 (upd H3 b (.lst [.ref dg, .int (a3 : Int), .int 6, .int n3, .int z0.n4, .ref pl1])) := Oth.put (by simp) hb3
    have p2 := p1.trans (Oth.put (b := b) (o := .lst [.ref dg, .int (a3 : Int), .int 6, .int 2, .int z0.n4, .ref pl1]) (by simp) upd_same)
    have p3 := p2.trans (Oth.put (b := b) (o := .lst [.ref dg, .int (a3 : Int), .int 6, .int 2, .int 1, .ref pl1]) (by simp) upd_same)
    have hD6 := p3.keep D _ (by simp [nbD.symm]) hD3
    refine ⟨_, rfl, D, pv, rfl, .inl (SqL.of hD6), _, rfl, RgOk.of_le (by decide) (by omega) (by decide) (by omega), fun q5 hq5 => ?_⟩
    have hb6 := (Oth.new (S := []) (o := .lst (rgV 0 (pv.length : Int))) hq5).keep b _ (by simp) upd_same
    refine ⟨_, rfl, b, _, 5, 5, rfl, rfl, hb6, rfl, ?_⟩
    have bx7 := bx6.swap hq5 (List.range pv.length) a3 6 2 1
    rw [← rgV_nat] at bx7
    have p4 := p3.trans ((Oth.new (S := [b]) (o := .lst (rgV 0 (pv.length : Int))) hq5).trans (Oth.put (b := b) (o := .lst [.ref dg, .int (a3 : Int), .int 6, .int 2, .int 1, .ref q5]) (by simp) hb6))
    have f5 := bx6.fresh p3 hq5
    refine ⟨fun σ H' => σ = [some (.ref b), some (.int mz), some (.ref D), some (.ref pC), some (.int (0 + (i : Int))), x5, x6, x7, x8] ∧ ∃ pl2, H3 pl2 = none ∧ By H' b dg pl2 ⟨6, 1, if i = 0 then List.range pv.length else []⟩ ∧ Oth [b] H3 H', ?_, ?_⟩
    · refine ⟨_, rfl, _, _, rfl, rfl, _, rfl, ite2 (fun c => ?_) (fun c => ?_)⟩
      · refine ⟨sz, fun q6 hq6 => ?_⟩
        have hb7 := (Oth.new (S := []) (o := .lst []) hq6).keep b _ (by simp) upd_same
        refine ⟨_, rfl, b, _, 5, 5, rfl, rfl, hb7, rfl, ?_⟩
        have bx8 := bx7.swap hq6 [] a3 6 2 1
        have hi0 : ¬ i = 0 := by have c' : (0 : Int) < 0 + (i : Int) := of_decide_eq_true c; omega
        exact ⟨rfl, q6, bx7.fresh p4 hq6, by rw [if_neg hi0]; exact bx8, p4.trans ((Oth.new (S := [b]) (o := .lst []) hq6).trans (Oth.put (b := b) (by simp) hb7))⟩
      · have hi0 : i = 0 := by have c' : ¬ (0 : Int) < 0 + (i : Int) := of_decide_eq_false (Bool.eq_false_iff.mpr c); omega
        exact ⟨rfl, q5, f5, by rw [if_pos hi0]; exact bx7, p4⟩
    rintro σ H8 ⟨rfl, pl2, f2, bx8, o8⟩
    -- cells
    refine ⟨_, rfl, _, b, dg, pl2, _, rfl, by decide, bx8, fun n9 H9 l9 u9 bx9 o9 => ⟨n9, rfl, by omega, by omega, fun D1 hD1 => lc_range (lo := 0) (n := n9.toNat)
      (fun j H2 => By H2 b dg pl2 ⟨6, 1, if i = 0 then List.range pv.length else []⟩ ∧ ∃ vs : List Nat, H2 D1 = some (.lst (vs.map natV)) ∧ vs.length = j ∧ (∀ n ∈ vs, n < 4) ∧ Oth [b, D1] H9 H2)
      ⟨bx9.new hD1, [], upd_same, rfl, by simp, Oth.new hD1⟩ (fun j H2 hj hW => ?_) (fun H10 hW => ?_)⟩⟩
    · obtain ⟨bx2, vs, hD2, lv, sv, o2⟩ := hW
      have nbD1 : b ≠ D1 := bx9.nb hD1
      refine ⟨rfl, ⟨_, rfl, _, b, dg, pl2, _, rfl, by decide, bx2, fun r H3 l3 u3 bx3 o3 => ?_⟩⟩
      have hD3 := o3.keep D1 _ (by simp [nbD1.symm]) hD2
      try dsimp only
      rw [natV_toNat l3]
      have op : Oth [D1] H3 (upd H3 D1 (.lst (vs.map natV ++ [natV r.toNat]))) := Oth.put (by simp) hD3
      exact ⟨_, hD3, small1000 (by rw [List.length_map]; omega), bx3.oth op (by simp [nbD1]) (by simp [bx9.ndn hD1]) (by simp [bx9.npn hD1]), vs ++ [r.toNat], by rw [List.map_append]; exact upd_same, by rw [List.length_append, lv]; rfl, fun n hn => by
        rcases List.mem_append.mp hn with h | h
        · exact sv n h
        · rw [List.mem_singleton.mp h]; omega, o2.trans ((o3.mono (by simp)).trans (op.mono (by simp)))⟩
    obtain ⟨bx10, cvn, hD10, lcv, scv, o10⟩ := hW
    obtain ⟨cv, hcv⟩ : ∃ cv, cv = cvn.map natV := ⟨_, rfl⟩
    rw [← hcv] at hD10
    have o10' := Oth.drop2 o10 hD1
    refine .inl ⟨D1, _, rfl, SqL.of hD10, fun tc htc => ?_⟩
    have oc := Oth.new (S := [b]) (o := .tup cv) htc
    -- contents
    obtain ⟨mn, rfl⟩ : ∃ mn : Nat, mz = ((mn : Nat) : Int) + 1 := ⟨(mz - 1).toNat, by omega⟩
    have hi3 : i < 3 := by omega
    have ea : ([V.ref b, V.int (0 + (i : Int)), V.int 0, V.int ((mn : Int) + 1 - 1), V.bl true] : List V) = [V.ref b, V.int (i : Int), V.int ((0 : Nat) : Int), V.int (mn : Int), V.bl true] := by
      rw [show (0 : Int) + (i : Int) = (i : Int) by omega, show (mn : Int) + 1 - 1 = (mn : Int) by omega]
      rfl
    refine ⟨_, rfl, _, rfl, _, rfl, _, _, rfl, rfl, ⟨6, 1, if i = 0 then List.range pv.length else []⟩, b, dg, pl2, i, 0, mn, 3, true, ea, rfl, by decide, (show (0 : Int) ≤ 6 by decide), (show (0 : Int) ≤ 1 by decide), bx10.new htc, fun y1 ts1 v1 H11 d1 c1 k1 e1' r1 p1' f1 t1 bx11 o11 => ?_⟩
    refine ⟨_, rfl, _, rfl, _, rfl, _, _, rfl, rfl, y1, b, dg, pl2, i, 0, mn, 3, true, ea, rfl, by decide, k1, r1, bx11, fun y2 ts2 v2 H12 d2 c2 k2 e2' r2 p2' f2' t2 bx12 o12 => ?_⟩
    have c1'' : (Tp.cnts ts1 : Int) + y1.n2 = 6 := c1
    have e1'' : (Tp.echs ts1 : Int) + y1.n4 ≤ 1 := e1'
    have c1' : Tp.cnts ts1 ≤ 777 := by omega
    have c2' : Tp.cnts ts2 ≤ 777 := by omega
    have n1 := Tp.cnts_len ts1
    have n2 := Tp.cnts_len ts2
    obtain ⟨a1, xs1, rfl, e1, q1⟩ := (t1.oth o12).inv
    obtain ⟨a2, xs2, rfl, e2, q2⟩ := t2.inv
    have x1 : xs1.length ≤ 777 := by rw [(paired_get q1).1, Tp.toTs_map, List.length_map]; omega
    have x2' : xs2.length ≤ 777 := by rw [(paired_get q2).1, Tp.toTs_map, List.length_map]; omega
    refine cat_t e1 e2 (by omega) fun a12 H13 o13 e13 => ?_
    have q12 : Paired (IsT H13) (Tp.toTs (ts1 ++ ts2)) (xs1 ++ xs2) := by
      rw [toTs_app]
      exact paired_app (paired_oth q1 o13) (paired_oth q2 o13)
    -- the parts that are left
    have bx13 := bx12.oth o13 (by simp) (by simp) (by simp)
    obtain ⟨a13, w3, hb13⟩ := bx13.get
    have hp13 := bx13.parts
    obtain ⟨ps, hps⟩ : ∃ ps, y2.ps = ps := ⟨_, rfl⟩
    rw [hps] at hp13 p2'
    have pall : (Tp.ptss ts1 ++ (Tp.ptss ts2 ++ ps)).Perm (if i = 0 then List.range pv.length else []) := (List.Perm.append_left _ p2').trans p1'
    have lps : ps.length ≤ 2 ∧ (i ≠ 0 → ps = []) := by
      have := pall.length_eq
      simp only [List.length_append] at this
      by_cases h : i = 0
      · rw [if_pos h, List.length_range] at this
        exact ⟨by omega, fun z => absurd h z⟩
      · rw [if_neg h, List.length_nil] at this
        exact ⟨by omega, fun _ => List.eq_nil_of_length_eq_zero (by omega)⟩
    refine ⟨_, rfl, _, rfl, b, _, _, _, rfl, rfl, SqL.of hb13, at5, pl2, rfl, ⟨_, SqL.of hp13⟩, fun D2 hD2' => lc_list (xs := ps.map natV)
      (fun j H2 => H2 pl2 = some (.lst (ps.map natV)) ∧ ∃ (us : List Nat) (vs : List V), H2 D2 = some (.lst vs) ∧ Paired (IsT H2) (Tp.toTs (us.map Tp.part)) vs ∧ us = ps.take j ∧ us.length = j ∧ Oth [D2] H13 H2)
      ⟨(Oth.new (S := []) hD2').keep _ _ (by simp) hp13, [], [], upd_same, .nil, (List.take_zero).symm, rfl, Oth.new hD2'⟩ (fun j H2 _ hW => SqL.of hW.1) (fun j x H2 hx hW => ?_) (fun H14 hW => ?_)⟩
    · obtain ⟨h2, us, vs, hv, pq, su, lu, o2⟩ := hW
      have npD : pl2 ≠ D2 := bx13.npn hD2'
      rw [List.getElem?_map] at hx
      obtain ⟨u, gu, rfl⟩ : ∃ u, ps[j]? = some u ∧ natV u = x := by
        cases g : ps[j]? with
        | none => rw [g] at hx; cases hx
        | some u => rw [g] at hx; exact ⟨u, rfl, Option.some.inj hx⟩
      have lj : j < ps.length := (List.getElem?_eq_some_iff.mp gu).1
      refine ⟨rfl, ⟨_, rfl, sz, fun t ht => ?_⟩⟩
      have ot := Oth.new (S := [D2]) (o := .tup [.str "part", natV u]) ht
      have hv2 := (Oth.new (S := []) (o := .tup [.str "part", natV u]) ht).keep D2 _ (by simp) hv
      have op : Oth [D2] (upd H2 t (.tup [.str "part", natV u])) (upd (upd H2 t (.tup [.str "part", natV u])) D2 (.lst (vs ++ [.ref t]))) := Oth.put (by simp) hv2
      have lv : vs.length = us.length := by rw [(paired_get pq).1, Tp.toTs_map, List.length_map, List.length_map]
      refine ⟨vs, hv2, small1000 (by have := lps.1; omega), (ot.trans op).keep pl2 _ (by simp [npD]) h2, us ++ [u], vs ++ [.ref t], upd_same, ?_, by rw [su, List.take_add_one, gu]; rfl, by rw [List.length_append, lu]; rfl, o2.trans (ot.trans op)⟩
      rw [List.map_append, toTs_app]
      exact paired_app (paired_oth (paired_oth pq ot) op) (.cons (.mk2 (op.tup _ _ upd_same) (.str _) (.int _)) .nil)
    obtain ⟨h14, us, vs, hv14, pq14, su, lu, o14⟩ := hW
    have o14' : Oth [] H13 H14 := Oth.drop o14 hD2'
    rw [List.length_map, List.take_length] at su
    subst su
    have lu2 : us.length ≤ 2 := lps.1
    have lv : vs.length = us.length := by rw [(paired_get pq14).1, Tp.toTs_map, List.length_map, List.length_map]
    refine .inl ⟨D2, _, rfl, SqL.of hv14, fun t2 ht2 => ?_⟩
    have o15 := Oth.new (S := []) (o := .tup vs) ht2
    refine cat_t (o15.tup _ _ (o14'.tup _ _ e13)) upd_same (by rw [List.length_append]; omega) fun a3' H16 o16 e16 => ?_
    have q16 : Paired (IsT H16) (Tp.toTs (ts1 ++ ts2 ++ us.map Tp.part)) (xs1 ++ xs2 ++ vs) := by
      rw [toTs_app]
      exact paired_app (paired_oth (paired_oth (paired_oth q12 o14') o15) o16) (paired_oth (paired_oth pq14 o15) o16)
    have o13_16 := o13.trans (o14'.trans (o15.trans o16))
    have bx16 := bx12.oth o13_16 (by simp) (by simp) (by simp)
    have o3_16 : Oth [b] H3 H16 := by
      have z : Oth [b, pl2] H3 H16 := (o8.trans (o9.trans (o10'.trans oc))).two.trans (o11.trans (o12.trans (o13_16.mono (by simp))))
      exact Oth.drop2 z f2
    have hC16 := o3_16.keep pC _ (by simp [nbC.symm]) hC3
    -- the component
    refine ⟨_, rfl, .inl ⟨rfl, _, SqL.of hC16⟩, _, rfl, _, rfl, _, rfl, _, b, dg, pl2, rfl, bx16, fun ta va H17 aok tva bx17 o17 => ⟨sz, fun tp htp => ?_⟩⟩
    have on := Oth.new (S := [b]) (o := .tup [.str "component", .ref tc, .ref a3', va]) htp
    have o3_18 := o3_16.trans (o17.trans on)
    have hC18 := o3_18.keep pC _ (by simp [nbC.symm]) hC3
    refine ⟨pC, _, _, rfl, rfl, hC18, small1000 (by omega), ?_⟩
    have op : Oth [pC] _ (upd (upd H17 tp (.tup [.str "component", .ref tc, .ref a3', va])) pC (.lst (cs ++ [.ref tp]))) := Oth.put (by simp) hC18
    have np2 : pl2 ≠ pC := fun z => by rw [z, hC3] at f2; cases f2
    have hmz : (((mn : Nat) : Int) + 1).toNat - 1 = mn := by omega
    have lpn : pvn.length = pv.length := by rw [hpv, List.length_map]
    have gc : Cq.Ok i ((((mn : Nat) : Int) + 1).toNat - 1) pvn.length ⟨cvn, ts1 ++ ts2 ++ us.map Tp.part, ta⟩ := by
      rw [hmz, lpn]
      refine ⟨?_, ?_, ?_, ?_, ?_, by show cvn.length ≤ 4; omega, scv, Nat.le_of_eq aok.1, aok.2⟩
      · show Tp.Oks i mn true (ts1 ++ ts2 ++ us.map Tp.part)
        refine oks_app ?_ _ (oks_app f2' _ f1)
        by_cases h : i = 0
        · rw [h]; exact oks_parts us
        · rw [lps.2 h]; trivial
      · show Tp.deps _ ≤ 3
        rw [deps_app, deps_app, deps_parts]; omega
      · show Tp.cnts _ ≤ 8
        rw [cnts_app, cnts_app, cnts_parts]; omega
      · show Tp.echs _ ≤ 1
        rw [echs_app, echs_app, echs_parts]; omega
      · show (Tp.ptss _).Perm _
        rw [ptss_app, ptss_app, ptss_parts, List.append_assoc]
        exact pall
    refine ⟨_, _, _, _, _, pl2, y2, cs ++ [.ref tp], cms ++ [⟨cvn, ts1 ++ ts2 ++ us.map Tp.part, ta⟩], rfl, (bx17.new htp).oth op (by simp [nbC]) (by simp [ndC]) (by simp [np2]), np2, ?_, upd_same, ?_, ?_, by rw [List.length_append, lcm]; rfl, o3.trans ((o3_18.mono (by simp)).trans (op.mono (by simp)))⟩
    · exact op.keep D _ (by simp [nDC]) (o3_18.keep D _ (by simp [nbD.symm]) hD3)
    · rw [List.map_append]
      refine paired_app (paired_oth (paired_oth pcs o3_18) op) (.cons ?_ .nil)
      have htc16 : H16 tc = some (.tup (cvn.map natV)) := by
        rw [← hcv]
        exact (o11.trans (o12.trans (o13_16.mono (S' := [b, pl2]) (by simp)))).tup _ _ upd_same
      exact .mk4 (op.tup _ _ upd_same) (.str _) (mkNats (op.tup _ _ (on.tup _ _ (o17.tup _ _ htc16)))) (.mk (op.tup _ _ (on.tup _ _ (o17.tup _ _ e16))) (paired_oth (paired_oth (paired_oth q16 o17) on) op)) ((tva.oth on).oth op)
    · intro j c hc
      rcases Nat.lt_trichotomy j cms.length with h | h | h
      · rw [List.getElem?_append_left h] at hc
        exact gcs j c hc
      · rw [List.getElem?_append_right (by omega), h, Nat.sub_self] at hc
        cases hc
        rw [h, lcm]
        exact gc
      · rw [List.getElem?_eq_none (by simp; omega)] at hc
        cases hc
  · obtain ⟨x4, x5, x6, x7, x8, pl1, z0, cs, cms, rfl, bx3, np3, hD3, hC3, pcs, gcs, lcm, o3⟩ := hW
    refine ⟨_, rfl, _, b, dg, pl1, _, rfl, by decide, bx3, fun n9 H9 l9 u9 bx9 o9 => ⟨n9, rfl, by omega, by omega, fun D1 hD1 => lc_range (lo := 0) (n := n9.toNat)
      (fun j H2 => By H2 b dg pl1 z0 ∧ ∃ vs : List Nat, H2 D1 = some (.lst (vs.map natV)) ∧ vs.length = j ∧ (∀ n ∈ vs, n < 4) ∧ Oth [b, D1] H9 H2)
      ⟨bx9.new hD1, [], upd_same, rfl, by simp, Oth.new hD1⟩ (fun j H2 hj hW => ?_) (fun H10 hW => ?_)⟩⟩
    · obtain ⟨bx2, vs, hD2, lv, sv, o2⟩ := hW
      have nbD1 : b ≠ D1 := bx9.nb hD1
      refine ⟨rfl, ⟨_, rfl, _, b, dg, pl1, _, rfl, by decide, bx2, fun r H3 l3 u3 bx3 o3 => ?_⟩⟩
      have hD3 := o3.keep D1 _ (by simp [nbD1.symm]) hD2
      try dsimp only
      rw [natV_toNat l3]
      have op : Oth [D1] H3 (upd H3 D1 (.lst (vs.map natV ++ [natV r.toNat]))) := Oth.put (by simp) hD3
      exact ⟨_, hD3, small1000 (by rw [List.length_map]; omega), bx3.oth op (by simp [nbD1]) (by simp [bx9.ndn hD1]) (by simp [bx9.npn hD1]), vs ++ [r.toNat], by rw [List.map_append]; exact upd_same, by rw [List.length_append, lv]; rfl, fun n hn => by
        rcases List.mem_append.mp hn with h | h
        · exact sv n h
        · rw [List.mem_singleton.mp h]; omega, o2.trans ((o3.mono (by simp)).trans (op.mono (by simp)))⟩
    obtain ⟨bx10, cvn, hD10, lcv, scv, o10⟩ := hW
    obtain ⟨cv, hcv⟩ : ∃ cv, cv = cvn.map natV := ⟨_, rfl⟩
    rw [← hcv] at hD10
    have o10' := Oth.drop2 o10 hD1
    have o3_10 := o9.trans o10'
    refine .inl ⟨D1, _, rfl, SqL.of hD10, fun ts hts => ?_⟩
    have o11 := Oth.new (S := [b]) (o := .tup cv) hts
    have hC11 := (o3_10.trans o11).keep pC _ (by simp [nbC.symm]) hC3
    refine ⟨_, rfl, .inl ⟨pC, _, rfl, SqL.of hC11, fun tC htC => ⟨_, rfl, ?_⟩⟩⟩
    have o12 := Oth.new (S := [b]) (o := .tup cs) htC
    have hD12 := (o3_10.trans (o11.trans o12)).keep D _ (by simp [nbD.symm]) hD3
    refine ⟨_, rfl, .inl ⟨D, _, rfl, SqL.of hD12, fun tD htD => ⟨sz, fun tP htP => ?_⟩⟩⟩
    have o13 := Oth.new (S := [b]) (o := .tup pv) htD
    have o14 := Oth.new (S := [b]) (o := .tup [.str "program", .ref tC, .ref ts, .ref tD]) htP
    have o3_14 := o3_10.trans (o11.trans (o12.trans (o13.trans o14)))
    have o10_14 := o11.trans (o12.trans (o13.trans o14))
    have lpn : pvn.length = pv.length := by rw [hpv, List.length_map]
    refine q ⟨cms, cvn, pvn⟩ _ pl1 _ _ ⟨fun j c hc => ?_, by show 0 < cms.length; omega, by show cms.length ≤ 3; omega, by show pvn.length ≤ 2; omega, fun n hn => ?_, by show cvn.length ≤ 2; omega, scv⟩ ?_ (((((bx10.new hts).new htC).new htD).new htP)) (o02.trans ((Oth.drop2 o3 hC).trans o3_14))
    · show Cq.Ok j (cms.length - 1) pvn.length c
      rw [lcm]
      exact gcs j c hc
    · have h3 := zp (by rw [← lpn]; exact List.length_pos_of_mem hn)
      have := spv n hn
      exact ⟨this.1, by show n < cms.length; omega⟩
    · exact .mk4 upd_same (.str _) (.mk ((o13.trans o14).tup _ _ upd_same) (paired_oth pcs o3_14)) (mkNats (by rw [← hcv]; exact (o12.trans (o13.trans o14)).tup _ _ upd_same)) (mkNats (by rw [← hpv]; exact o14.tup _ _ upd_same))
end
abbrev sByKey : Stmt := topS 20
abbrev sWished : Stmt := topS 19
abbrev sDis : Stmt := topS 18
abbrev sLayOut : Stmt := topS 17
theorem scByKey : FnScope ["key", "other", "scope", "looked"] ["key", "other", "scope", "looked"] (defScope sByKey) := ⟨rfl, rfl, rfl, by decide +kernel, rfl, by decide +kernel, by decide +kernel⟩
theorem scWished : FnScope ["template", "other", "scope", "looked", "key", "part"] ["template", "other", "scope", "looked"] (defScope sWished) := ⟨rfl, rfl, rfl, by decide +kernel, rfl, by decide +kernel, by decide +kernel⟩
theorem scDis : FnScope ["contents", "before", "repeats", "scope", "looked", "found", "number", "template", "address", "condition", "chosen", "others", "holds", "behind", "count", "repeated", "turn", "inner", "other", "wished"] ["contents", "before", "repeats", "scope", "looked"] (defScope sDis) := ⟨rfl, rfl, rfl, by decide +kernel, rfl, by decide +kernel, by decide +kernel⟩
theorem scLayOut : FnScope ["contents", "scope", "looked", "row", "taken", "wished", "other", "template", "index", "name"] ["contents", "scope", "looked"] (defScope sLayOut) := ⟨rfl, rfl, rfl, by decide +kernel, rfl, by decide +kernel, by decide +kernel⟩
section
variable {P : Program} {w : World} {K : PySem.W.Frag} {mg : Str → Option Value} {base : Heap}
theorem ok_bykey {f fV : Addr} {fd dV : FuncData} {k : Nat} (F : Fun K "_by_key" "_by_key" sByKey f fd)
    (GV : FnOk P w K mg base CX0 k fV dV ["expression", "scope", "looked"] (spValue 4)) (bV : Binds K dV ["expression", "scope", "looked"] []) (kV : PySem.W.keepIn K (.ref fV) = true) (mV : mg "value" = some (.ref fV)) :
    FnOk P w K mg base CX0 (k + 1) f fd ["key", "other", "scope", "looked"] spByKey := by
  refine F.ok scByKey (fun vs H Q E h => ?_) (fun cdv A outer s H vs Q E' hr h => ?_)
  · obtain ⟨key, c, addr, reps, vk, vo, vc, l, L, rfl, _⟩ := h
    rfl
  obtain ⟨key, c, addr, reps, vk, vo, vc, l, L, rfl, tk, to, tc, hL, hd, hz, q⟩ := h
  have nd := scByKey.nd
  refine ⟨_, (pss_cons (ps_if (pt_cmpR op_isN (pv 0) pe_non (nomark _))
  (pss_one (ps_ret (pv 1)))
  pss_nil)
  (pss_one (ps_ret (pe_tup (pa_cons pe_str (pa_cons (pe_ix ix_tup (pv 1) pe_int (fun _ _ => rfl)) (pa_cons (pe_call GV hr rfl mV kV bV .nil pass0 (pa_cons (pv 0) (pa_cons (pv 2) (pa_cons (pv 3) pa_nil)))) pa_nil))))))), ?_⟩
  cases key with
  | none =>
    obtain rfl := tk.of_non
    refine ⟨_, rfl, rfl, _, rfl, iteTd rfl ⟨_, rfl, ?_⟩⟩
    exact q _ H to (by simpa [keyLooks] using hL) Oth.refl
  | some e =>
    obtain ⟨ao, _, y1, y2, rfl, eo, p0, p1, p2⟩ := IsT.inv3 to
    obtain rfl := p0.of_str
    have hne : ∃ a, vk = .ref a := by
      cases e <;> (obtain ⟨a, xs, rfl, _⟩ := IsT.inv tk; exact ⟨a, rfl⟩)
    obtain ⟨ak, rfl⟩ := hne
    refine ⟨_, rfl, rfl, _, rfl, iteFd (by intro h; cases h) ?_⟩
    refine ⟨_, rfl, ao, _, _, _, rfl, rfl, SqT.of eo, at1, ?_⟩
    have hd' := hd e rfl
    refine ⟨_, rfl, _, rfl, _, rfl, e, c, _, _, l, L, rfl, tk, tc, hL, by omega, by simpa [ksz] using hz, fun H1 e1 o1 => ⟨sz, fun p hp => ?_⟩⟩
    have on := Oth.new (S := [l]) (o := .tup [.str "key", y1, .int (e.val c)]) hp
    refine q _ _ (.mk3 upd_same (.str _) ((p1.oth o1).oth on) (.int _)) ?_ (o1.trans on)
    exact (Oth.new (S := []) hp).keep l _ (by simp) e1
theorem ok_wished {f fK : Addr} {fd dK : FuncData} {k : Nat} (F : Fun K "_wished" "_wished" sWished f fd)
    (GDk : FnOk P w K mg base CX0 k fK dK ["key", "other", "scope", "looked"] spByKey) (bDk : Binds K dK ["key", "other", "scope", "looked"] []) (kDk : PySem.W.keepIn K (.ref fK) = true) (mDk : mg "_by_key" = some (.ref fK)) :
    FnOk P w K mg base CX0 (k + 1) f fd ["template", "other", "scope", "looked"] spWished := by
  refine F.ok scWished (fun vs H Q E h => ?_) (fun cdv A outer s H vs Q E' hr h => ?_)
  · obtain ⟨t, c, addr, reps, vt, vo, vc, l, L, rfl, _⟩ := h
    rfl
  obtain ⟨t, c, addr, reps, vt, vo, vc, l, L, rfl, tt, hn, to, tc, hL, hf, hz, q⟩ := h
  have nd := scWished.nd
  refine ⟨_, (pss_one (ps_match (pv 0) (pcs_cons nd (pp_seq rfl (pps_cons' pp_str (pps_cons' pp_any (pps_cons' (pp_name 4) (pps_cons' pp_any (pps_cons' pp_any pps_nil')))))) (pss_one (ps_ret (pe_call GDk hr rfl mDk kDk bDk .nil pass0 (pa_cons (pv 4) (pa_cons (pv 1) (pa_cons (pv 2) (pa_cons (pv 3) pa_nil)))))))
  (pcs_cons nd (pp_seq rfl (pps_cons' pp_str (pps_cons' pp_any (pps_cons' (pp_name 4) (pps_cons' pp_any pps_nil'))))) (pss_one (ps_ret (pe_call GDk hr rfl mDk kDk bDk .nil pass0 (pa_cons (pv 4) (pa_cons (pv 1) (pa_cons (pv 2) (pa_cons (pv 3) pa_nil)))))))
  (pcs_cons nd (pp_seq rfl (pps_cons' pp_str (pps_cons' (pp_name 5) pps_nil'))) (pss_one (ps_ret (pe_tup (pa_cons pe_str (pa_cons (pv 5) pa_nil)))))
  (pcs_cons nd pp_any (pss_one (ps_ret (pv 1)))
  pcs_nil)))))), ?_⟩
  cases t with
  | box tag key act cs =>
    obtain ⟨a, _, v1, v2, v3, v4, rfl, ha, p0, p1, p2, p3, p4⟩ := IsT.inv5 tt
    obtain rfl := p0.of_str
    simp only [Tp.wt] at hz
    refine ⟨_, rfl, case_hit (SqT.of ha) rfl ⟨_, _, rfl, _, _, rfl, _, _, rfl, _, _, rfl, ?_⟩⟩
    exact ⟨_, rfl, _, rfl, _, rfl, _, rfl, key, c, addr, reps, _, _, _, l, L, rfl, p2, to, tc, hL, hf.1, by omega, q⟩
  | child n key props =>
    obtain ⟨a, _, v1, v2, v3, rfl, ha, p0, p1, p2, p3⟩ := IsT.inv4 tt
    obtain rfl := p0.of_str
    simp only [Tp.wt] at hz
    refine ⟨_, rfl, case_skip (SqT.of ha) (by decide) (case_hit (SqT.of ha) rfl ⟨_, _, rfl, _, _, rfl, _, _, rfl, ?_⟩)⟩
    exact ⟨_, rfl, _, rfl, _, rfl, _, rfl, key, c, addr, reps, _, _, _, l, L, rfl, p2, to, tc, hL, hf.1, by omega, q⟩
  | part n =>
    obtain ⟨a, _, v1, rfl, ha, p0, p1⟩ := IsT.inv2 tt
    obtain rfl := p0.of_str
    refine ⟨_, rfl, case_skip (SqT.of ha) (by decide) (case_skip (SqT.of ha) (by decide) (case_hit (SqT.of ha) rfl ⟨_, _, rfl, ?_⟩))⟩
    refine ⟨_, rfl, sz, fun p hp => ?_⟩
    have on := Oth.new (S := [l]) (o := .tup [.str "part", v1]) hp
    exact q _ _ (.mk2 upd_same (.str _) (p1.oth on)) (by simpa [keyLooks, Tp.key?] using (Oth.new (S := []) (o := .tup [.str "part", v1]) hp).keep l _ (by simp) hL) on
  | when _ _ _ => cases hn
  | each _ _ => cases hn
  | _ =>
    obtain ⟨a, r, rfl, ha⟩ := Tp.kindAt _ tt
    refine ⟨_, rfl, case_skip (SqT.of ha) (by simp only [Tp.kind]; decide) (case_skip (SqT.of ha) (by simp only [Tp.kind]; decide) (case_skip (SqT.of ha) (by simp only [Tp.kind]; decide) ⟨_, rfl, ?_⟩))⟩
    exact q _ _ to (by simpa [keyLooks, Tp.key?] using hL) Oth.refl
end
section
variable {P : Program} {w : World} {K : PySem.W.Frag} {mg : Str → Option Value} {base : Heap}
theorem ok_dis {f fV fW : Addr} {fd dV dW : FuncData} {k n : Nat} {tR : Tok} (F : Fun K "_dissolved" "_dissolved" sDis f fd)
    (GDd : FnOk P w K mg base CX0 k f fd ["contents", "before", "repeats", "scope", "looked"] (spDis n)) (bDd : Binds K fd ["contents", "before", "repeats", "scope", "looked"] []) (kDd : PySem.W.keepIn K (.ref f) = true) (mDd : mg "_dissolved" = some (.ref f))
    (GV : FnOk P w K mg base CX0 k fV dV ["expression", "scope", "looked"] (spValue 4)) (bV : Binds K dV ["expression", "scope", "looked"] []) (kV : PySem.W.keepIn K (.ref fV) = true) (mV : mg "value" = some (.ref fV))
    (GDw : FnOk P w K mg base CX0 k fW dW ["template", "other", "scope", "looked"] spWished) (bDw : Binds K dW ["template", "other", "scope", "looked"] []) (kDw : PySem.W.keepIn K (.ref fW) = true) (mDw : mg "_wished" = some (.ref fW))
    (m_enumerate : mg "enumerate" = none) (m_range : mg "range" = none) (c_RE : mg "REPEATS" = some (.int 6 tR)) :
    FnOk P w K mg base CX0 (k + 1) f fd ["contents", "before", "repeats", "scope", "looked"] (spDis (n + 1)) := by
  refine F.ok scDis (fun vs H Q E h => ?_) (fun cdv A outer s H vs Q E' hr h => ?_)
  · obtain ⟨ts, c, be, re, vt, vb, vr, vc, l, L, rfl, _⟩ := h
    rfl
  obtain ⟨ts, c, be, re, vt, vb, vr, vc, l, L, rfl, tt, tb, tr, tc, hL, hd, hf, hz, hbe, hre, q⟩ := h
  have nd := scDis.nd
  refine ⟨_, (pss_cons (ps_set (i := 5) nd rfl (.inl rfl) (pe_lst pa_nil))
  (pss_cons (ps_for PassesOwn.never rfl (pi_enumT (by rfl) m_enumerate (pa_cons (pv 0) pa_nil)) (pg_tup rfl (pgs_cons (pg_name (i := 6) nd rfl (.inl rfl)) (pgs_cons (pg_name (i := 7) nd rfl (.inl rfl)) pgs_nil)))
  (pss_cons (ps_set (i := 8) nd rfl (.inl rfl) (pe_op op_catA (pv 1) (pe_tup (pa_cons (pv 6) pa_nil))))
  (pss_one (ps_match (pv 7) (pcs_cons nd (pp_seq rfl (pps_cons' pp_str (pps_cons' (pp_name 9) (pps_cons' (pp_name 10) (pps_cons' (pp_name 11) pps_nil'))))) (pss_cons (ps_set (i := 12) nd rfl (.inl rfl) (pe_cmpR op_ne (pe_call GV hr rfl mV kV bV .nil pass0 (pa_cons (pv 9) (pa_cons (pv 3) (pa_cons (pv 4) pa_nil)))) pe_int (nomark _)))
  (pss_cons (ps_set (i := 13) nd rfl (.inl rfl) (pe_op op_catA (pv 8) (pe_ifExp (pt_val (pv 12)) (pe_tup (pa_cons pe_int pa_nil)) (pe_tup (pa_cons pe_int pa_nil)))))
  (pss_one (ps_expr (pe_bm PySem.F.plainAttrs_list PySem.F.slot_list_extend PySem.F.type_list_extend mt_extend (pv 5) (pa_cons (pe_call GDd hr rfl mDd kDd bDd .nil pass0 (pa_cons (pe_ifExp (pt_val (pv 12)) (pv 10) (pv 11)) (pa_cons (pv 13) (pa_cons (pv 2) (pa_cons (pv 3) (pa_cons (pv 4) pa_nil)))))) pa_nil))))))
  (pcs_cons nd (pp_seq rfl (pps_cons' pp_str (pps_cons' (pp_name 14) (pps_cons' (pp_name 15) pps_nil')))) (pss_one (ps_for PassesOwn.never rfl (pi_range1 (by rfl) m_range (pa_cons (pe_op op_mod (pe_call GV hr rfl mV kV bV .nil pass0 (pa_cons (pv 14) (pa_cons (pv 3) (pa_cons (pv 4) pa_nil)))) (pe_glob (v := .int 6) (by rfl) c_RE ⟨_, rfl⟩)) pa_nil)) (pg_name (i := 16) nd rfl (.inl rfl))
  (pss_cons (ps_set (i := 17) nd rfl (.inl rfl) (pe_op op_catA (pe_slice sl_tupA (pv 3) po_none (po_some pe_int)) (pe_tup (pa_cons (pv 16) pa_nil))))
  (pss_one (ps_expr (pe_bm PySem.F.plainAttrs_list PySem.F.slot_list_extend PySem.F.type_list_extend mt_extend (pv 5) (pa_cons (pe_call GDd hr rfl mDd kDd bDd .nil pass0 (pa_cons (pv 15) (pa_cons (pv 8) (pa_cons (pe_op op_catA (pv 2) (pe_tup (pa_cons (pv 16) pa_nil))) (pa_cons (pv 17) (pa_cons (pv 4) pa_nil)))))) pa_nil)))))))
  (pcs_cons nd pp_any (pss_cons (ps_set (i := 18) nd rfl (.inl rfl) (pe_tup (pa_cons pe_str (pa_cons (pv 8) (pa_cons (pv 2) pa_nil)))))
  (pss_cons (ps_set (i := 19) nd rfl (.inl rfl) (pe_call GDw hr rfl mDw kDw bDw .nil pass0 (pa_cons (pv 7) (pa_cons (pv 18) (pa_cons (pv 3) (pa_cons (pv 4) pa_nil))))))
  (pss_one (ps_expr (pe_bm PySem.F.plainAttrs_list PySem.F.slot_list_append PySem.F.type_list_append mt_append (pv 5) (pa_cons (pe_tup (pa_cons (pv 19) (pa_cons (pv 18) (pa_cons (pv 7) (pa_cons (pe_ix ix_tup (pv 3) pe_int (fun _ _ => rfl)) pa_nil))))) pa_nil))))))
  pcs_nil)))))))
  (pss_one (ps_ret (pv 5))))), ?_⟩
  obtain ⟨ac, xs, rfl, ec, pc⟩ := tt.inv
  obtain ⟨ab, rfl, eb⟩ := tb.ints
  obtain ⟨ar, rfl, er⟩ := tr.ints
  obtain ⟨sc, sa, sp, ss, rfl, esc, esa, esp, ess⟩ := Sc.parts tc
  have lxs := (paired_get pc).1
  rw [Tp.toTs_map, List.length_map] at lxs
  refine ⟨sz, fun p hp => ?_⟩
  have nlp : l ≠ p := ne_of_none hL hp
  have o0 := Oth.new (S := []) (o := .lst []) hp
  refine ⟨_, rfl, ac, xs, rfl, SqT.of (o0.tup _ _ ec), for_enumT
    (fun i σ H1 => ∃ (x6 x7 x8 x9 x10 x11 x12 x13 x14 x15 x16 x17 x18 x19 : Option V) (rs : List V), σ = [some (.ref ac), some (.ref ab), some (.ref ar), some (.ref sc), some (.ref l), some (.ref p), x6, x7, x8, x9, x10, x11, x12, x13, x14, x15, x16, x17, x18, x19] ∧ Oth [l, p] H H1 ∧ H1 p = some (.lst rs) ∧ Paired (IsT H1) ((Tp.dis c be re 0 (ts.take i)).map Dr.toT) rs ∧ H1 l = some (.lst (L ++ (Tp.lks c (ts.take i)).map V.int)))
    ⟨none, none, none, none, none, none, none, none, none, none, none, none, none, none, [], rfl, o0.mono (by simp), upd_same, .nil, by rw [upd_ne nlp, hL]; simp [Tp.lks]⟩ (fun i σ H1 _ hW => ?_) (fun i x σ H1 Tt hx hW hT => ?_) (fun σ H1 hW => ?_)⟩
  · obtain ⟨_, _, _, _, _, _, _, _, _, _, _, _, _, _, _, _, o1, _, _, _⟩ := hW
    exact SqT.of (o1.tup _ _ ec)
  · obtain ⟨x6, x7, x8, x9, x10, x11, x12, x13, x14, x15, x16, x17, x18, x19, rs, rfl, o1, hp1, pr1, hl1⟩ := hW
    have hi : i < ts.length := by rw [← lxs]; exact (List.getElem?_eq_some_iff.mp hx).1
    obtain ⟨t, gt⟩ : ∃ t, ts[i]? = some t := ⟨ts[i], List.getElem?_eq_getElem hi⟩
    have ht : IsT H t.toT x := (paired_get pc).2 i _ _ (by rw [Tp.toTs_map, List.getElem?_map, gt]; rfl) hx
    have tm : t ∈ ts := List.mem_of_getElem? gt
    have wt := wts_take gt
    have dt := deps_mem tm
    have ft := fines_mem hf tm
    have lrs : rs.length ≤ Tp.wts (ts.take i) := by
      rw [(paired_get pr1).1, List.length_map]
      exact Tp.dis_len _ _ _ _ _
    have llk : (Tp.lks c (ts.take i)).length ≤ Tp.wts (ts.take i) := Tp.lks_len _ _
    have oT := Oth.new (S := []) (o := .tup [.int ((i : Nat) : Int), x]) hT
    have o2 := o1.trans (oT.mono (by simp))
    refine ⟨Tt, _, rfl, SqT.of upd_same, rfl, _, _, rfl, _, _, rfl, rfl, ?_⟩
    -- the address
    refine ⟨_, rfl, _, rfl, sz, fun r1 hr1' => cat_t ((o2.trans (Oth.new hr1')).tup _ _ eb) upd_same (by simp; omega) fun r2 H3 o3 e3 => ?_⟩
    have o13 := oT.trans ((Oth.new (S := []) (o := .tup [.int ((i : Nat) : Int)]) hr1').trans o3)
    have o03 := o1.trans (o13.mono (by simp))
    have e3' : H3 r2 = some (.tup ((be ++ [(i : Int)]).map V.int)) := by rw [e3, List.map_append]; rfl
    have hp3 := o13.keep p _ (by simp) hp1
    have hl3 := o13.keep l _ (by simp) hl1
    have pr3 := paired_oth pr1 o13
    have ht3 := ht.oth o03
    have ll3 : (L ++ (Tp.lks c (ts.take i)).map V.int).length = L.length + (Tp.lks c (ts.take i)).length := by rw [List.length_append, List.length_map]
    -- how a turn ends
    have fin : ∀ (H9 : Hp) (zs : List V) (y9 y10 y11 y12 y13 y14 y15 y16 y17 y18 y19 : Option V), Oth [l, p] H3 H9 → H9 p = some (.lst (rs ++ zs)) → Paired (IsT H9) ((t.dis1 c (be ++ [(i : Int)]) re).map Dr.toT) zs → H9 l = some (.lst (L ++ (Tp.lks c (ts.take i)).map V.int ++ (t.lk1 c).map V.int)) →
        ∃ (x6 x7 x8 x9 x10 x11 x12 x13 x14 x15 x16 x17 x18 x19 : Option V) (rs' : List V), ([some (.ref ac), some (.ref ab), some (.ref ar), some (.ref sc), some (.ref l), some (.ref p), some (.int (i : Int)), some x, some (.ref r2), y9, y10, y11, y12, y13, y14, y15, y16, y17, y18, y19] : L2.St) = [some (.ref ac), some (.ref ab), some (.ref ar), some (.ref sc), some (.ref l), some (.ref p), x6, x7, x8, x9, x10, x11, x12, x13, x14, x15, x16, x17, x18, x19] ∧ Oth [l, p] H H9 ∧ H9 p = some (.lst rs') ∧ Paired (IsT H9) ((Tp.dis c be re 0 (ts.take (i + 1))).map Dr.toT) rs' ∧ H9 l = some (.lst (L ++ (Tp.lks c (ts.take (i + 1))).map V.int)) := fun H9 zs y9 y10 y11 y12 y13 y14 y15 y16 y17 y18 y19 o9 hp9 pz9 hl9 => by
      refine ⟨_, _, _, _, _, _, _, _, _, _, _, _, _, _, rs ++ zs, rfl, o03.trans o9, hp9, ?_, ?_⟩
      · rw [dis_take gt, List.map_append]
        exact paired_app (paired_oth pr3 o9) pz9
      · rw [lks_take gt, List.map_append, ← List.append_assoc]
        exact hl9
    by_cases hn : t.node = true
    · -- a node
      obtain ⟨n1, n2⟩ := Tp.dis1_node t hn c (be ++ [(i : Int)]) re
      obtain ⟨at', rt, rfl, et⟩ := Tp.kindAt t ht3
      have nk := node_kind hn
      refine ⟨_, rfl, case_skip (SqT.of et) nk.1.symm (case_skip (SqT.of et) nk.2.symm ?_)⟩
      refine ⟨_, rfl, _, rfl, sz, fun r3 hr3 => ?_⟩
      have o4 := Oth.new (S := []) (o := .tup [.str "at", .ref r2, .ref ar]) hr3
      have oth4 : IsT (upd H3 r3 (.tup [.str "at", .ref r2, .ref ar])) (Nm.at (be ++ [(i : Int)]) re).toT (.ref r3) := .mk3 upd_same (.str _) (.mkI (o4.tup _ _ e3')) (.mkI (o4.tup _ _ (o03.tup _ _ er)))
      refine ⟨_, rfl, _, rfl, _, rfl, _, rfl, t, c, be ++ [(i : Int)], re, _, _, _, l, _, rfl, ht3.oth o4, hn, oth4, (tc.oth o03).oth o4, o4.keep l _ (by simp) hl3, ft, by rw [ll3]; omega, fun vw H5 tw l5 o5 => ?_⟩
      have o45 := (o4.mono (S' := [l]) (by simp)).trans o5
      have hp5 := o45.keep p _ (by simp [nlp.symm]) hp3
      refine ⟨_, rfl, .inl ⟨rfl, _, SqL.of hp5⟩, _, rfl, _, rfl, _, rfl, _, rfl, sc, _, _, _, rfl, rfl, SqT.of ((o03.trans (o45.mono (by simp))).tup _ _ esc), at4, sz, fun r4 hr4 => ?_⟩
      have o6 := Oth.new (S := []) (o := .tup [vw, .ref r3, .ref at', .int c.index]) hr4
      have hp6 := o6.keep p _ (by simp) hp5
      refine ⟨p, _, _, rfl, rfl, hp6, Nat.lt_of_le_of_lt (by omega : rs.length ≤ 50000) (by decide), ?_⟩
      have o7 : Oth [p] (upd H5 r4 (.tup [vw, .ref r3, .ref at', .int c.index])) (upd (upd H5 r4 (.tup [vw, .ref r3, .ref at', .int c.index])) p (.lst (rs ++ [.ref r4]))) := Oth.put (by simp) hp6
      refine fin _ [.ref r4] _ _ _ _ _ _ _ _ _ _ _ ((o45.mono (by simp)).trans ((o6.mono (by simp)).trans (o7.mono (by simp)))) upd_same ?_ ?_
      · rw [n1]
        exact .cons (.mk4 (o7.tup _ _ upd_same) ((tw.oth o6).oth o7) (((oth4.oth o5).oth o6).oth o7) ((((ht3.oth o4).oth o5).oth o6).oth o7) (.int _)) .nil
      · rw [n2]
        exact o7.keep l _ (by simp [nlp]) (o6.keep l _ (by simp) l5)
    · cases t with
      | when e cs os =>
        obtain ⟨a, _, v1, v2, v3, rfl, ha, p0, p1, p2, p3⟩ := IsT.inv4 ht3
        obtain rfl := p0.of_str
        simp only [Tp.wt] at wt
        simp only [Tp.dep] at dt
        refine ⟨_, rfl, case_hit (SqT.of ha) rfl ⟨_, _, rfl, _, _, rfl, _, _, rfl, ?_⟩⟩
        refine ⟨_, rfl, _, rfl, _, rfl, e, c, _, _, l, _, rfl, p1, tc.oth o03, hl3, by have := ft.1; omega, by rw [ll3]; omega, fun H4 l4 o4 => ⟨rfl, ?_⟩⟩
        have hp4 := o4.keep p _ (by simp [nlp.symm]) hp3
        have ll4 : (L ++ (Tp.lks c (ts.take i)).map V.int ++ (e.looks c).map V.int).length = L.length + (Tp.lks c (ts.take i)).length + (e.looks c).length := by rw [List.length_append, List.length_map, ll3]
        have le := e.looks_le c
        -- either way
        have way : ∀ (bs : List Tp) (vbs : V) (z : Int) (r5 : Addr) (H5 : Hp) (y9 y10 y11 y12 y14 y15 y16 y17 y18 y19 : Option V), IsT H3 (.tup (Tp.toTs bs)) vbs → Tp.wts bs ≤ Tp.wts cs + Tp.wts os → Tp.deps bs ≤ max (Tp.deps cs) (Tp.deps os) → Tp.Fines bs → Oth [] H4 H5 → H5 r5 = some (.tup ((be ++ [(i : Int)] ++ [z]).map V.int)) →
            (Tp.when e cs os).dis1 c (be ++ [(i : Int)]) re = Tp.dis c (be ++ [(i : Int)] ++ [z]) re 0 bs → (Tp.when e cs os).lk1 c = e.looks c ++ Tp.lks c bs →
            spDis n [vbs, .ref r5, .ref ar, .ref sc, .ref l] H5 (fun v H7 => ∃ (pz : Addr) (zs : List V), v = .ref pz ∧ H7 p = some (.lst rs) ∧ H7 pz = some (.lst zs) ∧ rs.length + zs.length ≤ 100000 ∧ ∀ (_ : True),
              Oth [l, p] H3 (upd H7 p (.lst (rs ++ zs))) ∧ Paired (IsT (upd H7 p (.lst (rs ++ zs)))) (((Tp.when e cs os).dis1 c (be ++ [(i : Int)]) re).map Dr.toT) zs ∧ (upd H7 p (.lst (rs ++ zs))) l = some (.lst (L ++ (Tp.lks c (ts.take i)).map V.int ++ ((Tp.when e cs os).lk1 c).map V.int))) E' := fun bs vbs z r5 H5 y9 y10 y11 y12 y14 y15 y16 y17 y18 y19 tbs wb db fb o5 e5 hdis hlk => by
          have o35 := o4.trans (o5.mono (by simp))
          refine ⟨bs, c, be ++ [(i : Int)] ++ [z], re, _, _, _, _, l, _, rfl, (tbs.oth o4).oth o5, .mkI e5, .mkI (o35.tup _ _ (o03.tup _ _ er)), (tc.oth o03).oth o35, o5.keep l _ (by simp) l4, by omega, fb, by rw [ll4]; omega, by simp; omega, by omega, fun pz H7 zs hpz e7 pq7 l7 o7 => ?_⟩
          have hp7 := o7.keep p _ (by simp [nlp.symm]) (o5.keep p _ (by simp) hp4)
          have lzs : zs.length ≤ Tp.wts bs := by rw [(paired_get pq7).1, List.length_map]; exact Tp.dis_len _ _ _ _ _
          have o8 : Oth [p] H7 (upd H7 p (.lst (rs ++ zs))) := Oth.put (by simp) hp7
          refine ⟨pz, zs, rfl, hp7, e7, by omega, fun _ => ⟨(o35.mono (by simp)).trans ((o7.mono (by simp)).trans (o8.mono (by simp))), ?_, ?_⟩⟩
          · rw [hdis]; exact paired_oth pq7 o8
          · rw [hlk, List.map_append, ← List.append_assoc]
            exact o8.keep l _ (by simp [nlp]) l7
        refine ⟨_, rfl, _, rfl, _, rfl, ite2 (fun c1 => ?_) (fun c1 => ?_)⟩
        · have hv : ¬ e.val c = 0 := fun z => by rw [z] at c1; simp at c1
          refine ⟨sz, fun r3 hr3 => cat_t ((o4.trans (Oth.new hr3)).tup _ _ e3') upd_same (by simp; omega) fun r5 H5 o5 e5 => ?_⟩
          have o45 := (Oth.new (S := []) (o := .tup [.int 0]) hr3).trans o5
          have hp5 := o45.keep p _ (by simp) hp4
          refine ⟨_, rfl, .inl ⟨rfl, _, SqL.of hp5⟩, _, rfl, _, rfl, iteTb c1 ⟨_, rfl, _, rfl, _, rfl, _, rfl, _, rfl, ?_⟩⟩
          obtain ⟨bs, c', be', re', _, _, _, _, l', L', hvs, h1, h2, h3, h4, h5, h6, h7, h8, h9, h10, h11⟩ := way cs v2 0 r5 H5 none none none none none none none none none none p2 (by omega) (by omega) ft.2.1 o45 (by rw [e5, ← List.map_singleton (f := V.int), ← List.map_append]) (by simp only [Tp.dis1, if_neg hv]) (by simp only [Tp.lk1, if_neg hv])
          refine ⟨bs, c', be', re', _, _, _, _, l', L', hvs, h1, h2, h3, h4, h5, h6, h7, h8, h9, h10, fun pz H7 zs' a1 a2 a3 a4 a5 => ?_⟩
          obtain ⟨pz', zs, hpz, hp7, e7, hsz, hfin⟩ := h11 pz H7 zs' a1 a2 a3 a4 a5
          cases hpz
          obtain ⟨f1, f2, f3⟩ := hfin trivial
          refine ⟨p, pz, _, _, rfl, rfl, hp7, e7, Nat.le_trans hsz (by decide), ?_⟩
          exact fin _ zs _ _ _ _ _ _ _ _ _ _ _ f1 upd_same f2 f3
        · have hv : e.val c = 0 := Decidable.byContradiction fun z => c1 (by simp [z])
          refine ⟨sz, fun r3 hr3 => cat_t ((o4.trans (Oth.new hr3)).tup _ _ e3') upd_same (by simp; omega) fun r5 H5 o5 e5 => ?_⟩
          have o45 := (Oth.new (S := []) (o := .tup [.int 1]) hr3).trans o5
          have hp5 := o45.keep p _ (by simp) hp4
          refine ⟨_, rfl, .inl ⟨rfl, _, SqL.of hp5⟩, _, rfl, _, rfl, iteFb (Bool.eq_false_iff.mpr c1) ⟨_, rfl, _, rfl, _, rfl, _, rfl, _, rfl, ?_⟩⟩
          obtain ⟨bs, c', be', re', _, _, _, _, l', L', hvs, h1, h2, h3, h4, h5, h6, h7, h8, h9, h10, h11⟩ := way os v3 1 r5 H5 none none none none none none none none none none p3 (by omega) (by omega) ft.2.2 o45 (by rw [e5, ← List.map_singleton (f := V.int), ← List.map_append]) (by simp only [Tp.dis1, if_pos hv]) (by simp only [Tp.lk1, if_pos hv])
          refine ⟨bs, c', be', re', _, _, _, _, l', L', hvs, h1, h2, h3, h4, h5, h6, h7, h8, h9, h10, fun pz H7 zs' a1 a2 a3 a4 a5 => ?_⟩
          obtain ⟨pz', zs, hpz, hp7, e7, hsz, hfin⟩ := h11 pz H7 zs' a1 a2 a3 a4 a5
          cases hpz
          obtain ⟨f1, f2, f3⟩ := hfin trivial
          refine ⟨p, pz, _, _, rfl, rfl, hp7, e7, Nat.le_trans hsz (by decide), ?_⟩
          exact fin _ zs _ _ _ _ _ _ _ _ _ _ _ f1 upd_same f2 f3
      | each e cs =>
        obtain ⟨a, _, v1, v2, rfl, ha, p0, p1, p2⟩ := IsT.inv3 ht3
        obtain rfl := p0.of_str
        simp only [Tp.wt] at wt
        simp only [Tp.dep] at dt
        refine ⟨_, rfl, case_skip (SqT.of ha) (by decide) (case_hit (SqT.of ha) rfl ⟨_, _, rfl, _, _, rfl, ?_⟩)⟩
        refine ⟨_, rfl, _, rfl, _, rfl, e, c, _, _, l, _, rfl, p1, tc.oth o03, hl3, by have := ft.1; omega, by rw [ll3]; omega, fun H4 l4 o4 => ⟨_, _, rfl, rfl, (by show (0 : Int) < 6; decide), ?_⟩⟩
        have hp4 := o4.keep p _ (by simp [nlp.symm]) hp3
        have ll4 : (L ++ (Tp.lks c (ts.take i)).map V.int ++ (e.looks c).map V.int).length = L.length + (Tp.lks c (ts.take i)).length + (e.looks c).length := by rw [List.length_append, List.length_map, ll3]
        have le := e.looks_le c
        have m6 := mod6 (e.val c)
        have o34 : Oth [l, p] H3 H4 := o4.mono (by simp)
        refine ⟨_, rfl, by omega, by omega, for_range (lo := 0) (n := (e.val c % 6).toNat)
          (fun j σ H5 => ∃ (y16 y17 : Option V) (zs : List V), σ = [some (.ref ac), some (.ref ab), some (.ref ar), some (.ref sc), some (.ref l), some (.ref p), some (.int (i : Int)), some (.ref a), some (.ref r2), x9, x10, x11, x12, x13, some v1, some v2, y16, y17, x18, x19] ∧ Oth [l, p] H3 H5 ∧ H5 p = some (.lst (rs ++ zs)) ∧
            Paired (IsT H5) (((List.range j).flatMap fun (m : Nat) => Tp.dis { c with index := (m : Int) } (be ++ [(i : Int)]) (re ++ [(m : Int)]) 0 cs).map Dr.toT) zs ∧
            H5 l = some (.lst (L ++ (Tp.lks c (ts.take i)).map V.int ++ (e.looks c).map V.int ++ ((List.range j).flatMap fun (m : Nat) => Tp.lks { c with index := (m : Int) } cs).map V.int)))
          ⟨_, _, [], rfl, o34, by rw [List.append_nil]; exact hp4, .nil, by simpa using l4⟩ (fun j σ H5 hj hW => ?_) (fun σ H5 hW => ?_)⟩
        · obtain ⟨y16, y17, zs, rfl, o5, hp5, pz5, hl5⟩ := hW
          have j5 : j ≤ 4 := by omega
          have lz1 := flat_len (f := fun m : Nat => Tp.dis { c with index := (m : Int) } (be ++ [(i : Int)]) (re ++ [(m : Int)]) 0 cs) (m := Tp.wts cs) (fun m => Tp.dis_len cs _ _ _ _) j
          have lz2 := flat_len (f := fun m : Nat => Tp.lks { c with index := (m : Int) } cs) (m := Tp.wts cs) (fun m => Tp.lks_len cs _) j
          have jm : j * Tp.wts cs ≤ 4 * Tp.wts cs := Nat.mul_le_mul_right _ j5
          have lzs : zs.length ≤ 4 * Tp.wts cs := by rw [(paired_get pz5).1, List.length_map]; omega
          rw [show (0 : Int) + (j : Int) = (j : Int) from Int.zero_add _]
          have o05 := o03.trans o5
          refine ⟨_, rfl, 4, rfl, sl_take (n := 4) (o05.tup _ _ esc) fun c6 H6 o6 e6 => ?_⟩
          refine ⟨_, rfl, sz, fun r7 hr7 => cat_t ((Oth.new (S := []) (o := .tup [.int (j : Int)]) hr7).tup _ _ e6) upd_same (by simp) fun c8 H8 o8 e8 => ?_⟩
          have o58 := o6.trans ((Oth.new (S := []) (o := .tup [.int (j : Int)]) hr7).trans o8)
          have o08 := o05.trans (o58.mono (by simp))
          have tin : IsT H8 (Sc.toT { c with index := (j : Int) }) (.ref c8) := Sc.mk' (c := { c with index := (j : Int) }) e8 (o08.tup _ _ esa) (o08.tup _ _ esp) (o08.tup _ _ ess)
          have hp8 := o58.keep p _ (by simp) hp5
          have hl8 := o58.keep l _ (by simp) hl5
          refine ⟨_, rfl, .inl ⟨rfl, _, SqL.of hp8⟩, _, rfl, _, rfl, ?_⟩
          refine ⟨_, rfl, _, rfl, sz, fun r9 hr9 => cat_t ((o08.trans (Oth.new hr9)).tup _ _ er) upd_same (by simp; omega) fun c10 H10 o10 e10 => ?_⟩
          have o810 := (Oth.new (S := []) (o := .tup [.int (j : Int)]) hr9).trans o10
          have o510 := o58.trans o810
          have o310 := o5.trans (o510.mono (by simp))
          have hp10 := o810.keep p _ (by simp) hp8
          have hl10 := o810.keep l _ (by simp) hl8
          refine ⟨_, rfl, _, rfl, cs, { c with index := (j : Int) }, be ++ [(i : Int)], re ++ [(j : Int)], _, _, _, _, l, _, rfl, p2.oth o310, .mkI (o310.tup _ _ e3'), .mkI (by rw [e10, List.map_append]; rfl), tin.oth o810, hl10, by omega, ft.2, by rw [List.length_append, List.length_map, ll4]; omega, by simp; omega, by simp; omega, fun pz H11 us hpz e11 pq11 l11 o11 => ?_⟩
          have hp11 := o11.keep p _ (by simp [nlp.symm]) hp10
          have lus : us.length ≤ Tp.wts cs := by rw [(paired_get pq11).1, List.length_map]; exact Tp.dis_len _ _ _ _ _
          refine ⟨p, pz, _, _, rfl, rfl, hp11, e11, Nat.le_trans (by rw [List.length_append]; omega : (rs ++ zs).length + us.length ≤ 100000) (by decide), ?_⟩
          have o12 : Oth [p] H11 (upd H11 p (.lst (rs ++ zs ++ us))) := Oth.put (by simp) hp11
          have o512 : Oth [l, p] H5 (upd H11 p (.lst (rs ++ zs ++ us))) := (o510.mono (by simp)).trans ((o11.mono (by simp)).trans (o12.mono (by simp)))
          refine ⟨_, _, zs ++ us, rfl, o5.trans o512, by rw [← List.append_assoc]; exact upd_same, ?_, ?_⟩
          · rw [flat_succ, List.map_append]
            exact paired_app (paired_oth pz5 o512) (paired_oth pq11 o12)
          · rw [flat_succ, List.map_append, ← List.append_assoc]
            exact o12.keep l _ (by simp [nlp]) l11
        · obtain ⟨y16, y17, zs, rfl, o5, hp5, pz5, hl5⟩ := hW
          refine fin _ zs _ _ _ _ _ _ _ _ _ _ _ o5 hp5 ?_ ?_
          · simpa only [Tp.dis1] using pz5
          · simp only [Tp.lk1, List.map_append]
            rw [← List.append_assoc]
            exact hl5
      | _ => exact absurd rfl hn
  · obtain ⟨x6, x7, x8, x9, x10, x11, x12, x13, x14, x15, x16, x17, x18, x19, rs, rfl, o1, hp1, pr1, hl1⟩ := hW
    rw [lxs, List.take_length] at pr1 hl1
    exact ⟨_, rfl, q p H1 rs hp hp1 pr1 hl1 (Oth.drop (p := p) (o1.mono (by simp)) hp)⟩
theorem ok_layout {f fD : Addr} {fd dD : FuncData} {k n : Nat} (F : Fun K "lay_out" "lay_out" sLayOut f fd)
    (GDd : FnOk P w K mg base CX0 k fD dD ["contents", "before", "repeats", "scope", "looked"] (spDis n)) (bDd : Binds K dD ["contents", "before", "repeats", "scope", "looked"] []) (kDd : PySem.W.keepIn K (.ref fD) = true) (mDd : mg "_dissolved" = some (.ref fD))
    (m_tuple : mg "tuple" = none) (hn : n ≤ 400) :
    FnOk P w K mg base CX0 (k + 1) f fd ["contents", "scope", "looked"] (spLayOut n) := by
  refine F.ok scLayOut (fun vs H Q E h => ?_) (fun cdv A outer s H vs Q E' hr h => ?_)
  · obtain ⟨ts, c, vt, vc, l, L, rfl, _⟩ := h
    rfl
  obtain ⟨ts, c, vt, vc, l, L, rfl, tt, tc, hL, hd, hf, hz, q⟩ := h
  have nd := scLayOut.nd
  have hu20 : (A.deeper (envOfC "lay_out" (defScope sLayOut) s.heap.objs.size f cdv)).units + 20 < cLine := by have := hr.un; omega
  refine ⟨_, (pss_cons (ps_set (i := 3) nd rfl (.inl rfl) (pe_lst pa_nil))
  (pss_cons (ps_set (i := 4) nd rfl (.inl rfl) pe_dnewN)
  (pss_cons (ps_for PassesOwn.never rfl (pi_list (pe_call GDd hr rfl mDd kDd bDd .nil pass0 (pa_cons (pv 0) (pa_cons (pe_tup pa_nil) (pa_cons (pe_tup pa_nil) (pa_cons (pv 1) (pa_cons (pv 2) pa_nil))))))) (pg_tup rfl (pgs_cons (pg_name (i := 5) nd rfl (.inl rfl)) (pgs_cons (pg_name (i := 6) nd rfl (.inl rfl)) (pgs_cons (pg_name (i := 7) nd rfl (.inl rfl)) (pgs_cons (pg_name (i := 8) nd rfl (.inl rfl)) pgs_nil)))))
  (pss_cons (ps_set (i := 9) nd rfl (.inl rfl) (pe_ifExp (pt_cmpR (op_inN hu20) (pv 5) (pv 4) (by rfl)) (pv 6) (pv 5)))
  (pss_cons (ps_asg pe_bl (pg_sub (pv 4) (pv 9) (set_nest hu20)))
  (pss_one (ps_expr (pe_bm PySem.F.plainAttrs_list PySem.F.slot_list_append PySem.F.type_list_append mt_append (pv 3) (pa_cons (pe_tup (pa_cons (pv 9) (pa_cons (pv 7) (pa_cons (pv 8) pa_nil)))) pa_nil)))))))
  (pss_one (ps_ret (pe_tupleOf (by rfl) m_tuple (pv 3))))))), ?_⟩
  refine ⟨sz, fun p hp => fun d H1 hd1 o1 hnd D1 => ?_⟩
  have o0 := Oth.new (S := []) (o := .lst []) hp
  have nlp : l ≠ p := ne_of_none hL hp
  have hp1 := o1.keep p _ (by simp) upd_same
  have hl1 := o1.keep l _ (by simp) (o0.keep l _ (by simp) hL)
  have npd : p ≠ d := ne_of_none (upd_same : (upd H p (.lst [])) p = _) hd1
  have nld : l ≠ d := ne_of_none (o0.keep l _ (by simp) hL) hd1
  have o01 := o0.trans o1
  refine ⟨_, rfl, sz, fun t1 ht1 => ⟨sz, fun t2 ht2 => ⟨_, rfl, _, rfl, ?_⟩⟩⟩
  have o2 := Oth.new (S := []) (o := .tup []) ht1
  have o3 := Oth.new (S := []) (o := .tup []) ht2
  have o23 := o2.trans o3
  have o03 := o01.trans o23
  refine ⟨ts, c, [], [], _, _, _, _, l, L, rfl, tt.oth o03, .mk (o3.tup _ _ upd_same) .nil, .mk upd_same .nil, tc.oth o03, o23.keep l _ (by simp) hl1, hd, hf, hz, by simp; omega, by simp; omega, fun pz H4 rs hpz e4 pq4 l4 o4 => ?_⟩
  have D3 := D1.oth o23 (by simp)
  have npz : p ≠ pz := ne_of_none (o23.keep p _ (by simp) hp1) hpz
  have ndz : d ≠ pz := D3.ne hpz
  have nlz : l ≠ pz := ne_of_none (o23.keep l _ (by simp) hl1) hpz
  have lds := Tp.dis_len ts c [] [] 0
  have lrs : rs.length = (Tp.dis c [] [] 0 ts).length := by rw [(paired_get pq4).1, List.length_map]
  generalize hds : Tp.dis c [] [] 0 ts = ds at pq4 lds lrs q
  refine ⟨pz, rfl, ⟨rs, SqL.of e4⟩, for_list (xs := rs)
    (fun i σ H5 => ∃ (x5 x6 x7 x8 x9 : Option V) (out : List V) (kvs : List (NestedKey × V)), σ = [some vt, some vc, some (.ref l), some (.ref p), some (.ref d), x5, x6, x7, x8, x9] ∧ Oth [l, p, d] H H5 ∧ H5 pz = some (.lst rs) ∧ Paired (IsT H5) (ds.map Dr.toT) rs ∧ H5 p = some (.lst out) ∧ Paired (IsT H5) ((named [] (ds.take i)).map itemT) out ∧
      DN P w H5 d kvs ∧ Takes' kvs ((named [] (ds.take i)).map (·.1)) ∧ kvs.length ≤ i ∧ H5 l = some (.lst (L ++ (Tp.lks c ts).map V.int)))
    ⟨none, none, none, none, none, [], [], rfl, (o03.mono (by simp)).trans (o4.mono (by simp)), e4, pq4, o4.keep p _ (by simp [nlp.symm]) (o23.keep p _ (by simp) hp1), .nil, D3.oth o4 (by simp [nld.symm]), fun n => by simp [valV_nil, named], Nat.zero_le _, l4⟩ (fun i σ H5 _ hW => ?_) (fun i x σ H5 hx hW => ?_) (fun σ H5 hW => ?_)⟩
  · obtain ⟨_, _, _, _, _, _, _, _, _, e5, _⟩ := hW
    exact SqL.of e5
  · obtain ⟨x5, x6, x7, x8, x9, out, kvs, rfl, o5, e5, pq5, hp5, po5, D5, tk5, lk5, hl5⟩ := hW
    have hi : i < ds.length := by rw [← lrs]; exact (List.getElem?_eq_some_iff.mp hx).1
    obtain ⟨dr, gd⟩ : ∃ dr, ds[i]? = some dr := ⟨ds[i], List.getElem?_eq_getElem hi⟩
    have td : IsT H5 dr.toT x := (paired_get pq5).2 i _ _ (by rw [List.getElem?_map, gd]; rfl) hx
    obtain ⟨ax, v1, v2, v3, v4, rfl, ex, i1, i2, i3, i4⟩ := IsT.inv4 td
    obtain ⟨b1, rfl, k1⟩ := Nm.nk_ref i1
    have lout : out.length = i := by rw [(paired_get po5).1, List.length_map, named_len, List.length_take]; omega
    refine ⟨ax, _, rfl, SqT.of ex, rfl, _, _, rfl, _, _, rfl, _, _, rfl, _, _, rfl, rfl, ?_⟩
    refine ⟨_, rfl, _, rfl, b1, d, _, kvs, rfl, rfl, k1, D5, _, rfl, ifx rfl rfl ?_⟩
    rw [tk5 dr.wish]
    obtain ⟨nn, hnn⟩ : ∃ nn, nn = if dr.wish ∈ (named [] (ds.take i)).map (·.1) then dr.other else dr.wish := ⟨_, rfl⟩
    obtain ⟨nv, hnv⟩ : ∃ nv, nv = if decide (dr.wish ∈ (named [] (ds.take i)).map (·.1)) = true then v2 else V.ref b1 := ⟨_, rfl⟩
    rw [← hnv]
    have tn : IsT H5 nn.toT nv := by
      rw [hnn, hnv]
      by_cases z : dr.wish ∈ (named [] (ds.take i)).map (·.1)
      · rw [if_pos z, if_pos (decide_eq_true z)]; exact i2
      · rw [if_neg z, if_neg (by simpa using z)]; exact i1
    obtain ⟨bn, rfl, kn⟩ := Nm.nk_ref tn
    refine ⟨_, rfl, _, rfl, d, bn, _, kvs, rfl, rfl, kn, D5, Nat.lt_of_le_of_lt (by omega : kvs.length ≤ 50000) (by decide), fun H6 o6 D6 => ?_⟩
    have hp6 := o6.keep p _ (by simp [npd]) hp5
    refine ⟨_, rfl, .inl ⟨rfl, _, SqL.of hp6⟩, _, rfl, _, rfl, _, rfl, sz, fun r hr => ?_⟩
    have o7 := Oth.new (S := []) (o := .tup [.ref bn, v3, v4]) hr
    have hp7 := o7.keep p _ (by simp) hp6
    refine ⟨p, _, _, rfl, rfl, hp7, Nat.lt_of_le_of_lt (by omega : out.length ≤ 50000) (by decide), ?_⟩
    have o8 : Oth [p] (upd H6 r (.tup [.ref bn, v3, v4])) (upd (upd H6 r (.tup [.ref bn, v3, v4])) p (.lst (out ++ [.ref r]))) := Oth.put (by simp) hp7
    have o58 : Oth [p, d] H5 (upd (upd H6 r (.tup [.ref bn, v3, v4])) p (.lst (out ++ [.ref r]))) := (o6.mono (by simp)).trans ((o7.mono (by simp)).trans (o8.mono (by simp)))
    refine ⟨_, _, _, _, _, out ++ [.ref r], _, rfl, o5.trans (o58.mono (by simp)), o58.keep pz _ (by simp [npz.symm, ndz.symm]) e5, paired_oth pq5 o58, upd_same, ?_, (D6.oth o7 (by simp)).oth o8 (by simp [npd.symm]), ?_, by have := length_putK kvs nn.toT.nk (.bl true); omega, o58.keep l _ (by simp [nlp, nld]) hl5⟩
    · rw [named_take gd, List.map_append, ← hnn]
      refine paired_app (paired_oth po5 o58) (.cons ?_ .nil)
      exact .mk3 (o8.tup _ _ upd_same) (tn.oth o58) (i3.oth o58) (i4.oth o58)
    · rw [named_take gd, List.map_append, ← hnn]
      exact tk5.put nn _
  · obtain ⟨x5, x6, x7, x8, x9, out, kvs, rfl, o5, e5, pq5, hp5, po5, D5, tk5, lk5, hl5⟩ := hW
    rw [lrs, List.take_length] at po5
    refine ⟨_, rfl, .inl ⟨p, _, rfl, SqL.of hp5, fun t ht => ?_⟩⟩
    have on := Oth.new (S := []) (o := .tup out) ht
    refine q _ _ (.mk upd_same (paired_oth po5 on)) (on.keep l _ (by simp) hl5) ?_
    have z1 : Oth [l, p, d] H H5 := o5
    refine Oth.trans ?_ (on.mono (by simp))
    refine ⟨fun a o na ha => ?_, o5.tup⟩
    refine o5.keep a o ?_ ha
    intro hm
    simp only [List.mem_cons, List.not_mem_nil, or_false] at hm na
    rcases hm with rfl | rfl | rfl
    · exact na rfl
    · rw [hp] at ha; cases ha
    · rw [o0.keep _ _ (by simp) ha] at hd1; cases hd1
end
abbrev sLawLay : Stmt := topS 50
theorem scLawLay : FnScope ["contents", "scope", "looked", "address", "repeats", "names", "rows", "k", "row", "here", "n", "inner", "name", "value_v"] ["contents", "scope", "looked", "address", "repeats", "names"] (defScope sLawLay) := ⟨rfl, rfl, rfl, by decide +kernel, rfl, by decide +kernel, by decide +kernel⟩
section
variable {P : Program} {w : World} {K : PySem.W.Frag} {mg : Str → Option Value} {base : Heap}
theorem ok_lawlay {f fV : Addr} {fd dV : FuncData} {k n : Nat} (F : Fun K "_law_lay" "_law_lay" sLawLay f fd)
    (GLl : FnOk P w K mg base CX0 k f fd ["contents", "scope", "looked", "address", "repeats", "names"] (spLawLay n)) (bLl : Binds K fd ["contents", "scope", "looked", "address", "repeats", "names"] []) (kLl : PySem.W.keepIn K (.ref f) = true) (mLl : mg "_law_lay" = some (.ref f))
    (GV : FnOk P w K mg base CX0 k fV dV ["e", "scope", "looked"] (spLawValue 4)) (bV : Binds K dV ["e", "scope", "looked"] []) (kV : PySem.W.keepIn K (.ref fV) = true) (mV : mg "_law_value" = some (.ref fV))
    (m_range : mg "range" = none) (m_len : mg "len" = none) (m_int : mg "int" = none) :
    FnOk P w K mg base CX0 (k + 1) f fd ["contents", "scope", "looked", "address", "repeats", "names"] (spLawLay (n + 1)) := by
  refine F.ok scLawLay (fun vs H Q E h => ?_) (fun cdv A outer s H vs Q E' hr h => ?_)
  · obtain ⟨ts, c, be, re, tk, vt, va, vr, s, sa, sp, ss, l, nl, L, nL, rfl, _⟩ := h
    rfl
  obtain ⟨ts, c, be, re, tk, vt, va, vr, sc, sa, sp, ss, l, nl, L, nL0, rfl, tt, ta, tr, esc, esa, esp, ess, hL, hnL, hpn, hsh, nsl, nsn, nln, hd, hf, hz, hzn, hbe, hre, q⟩ := h
  have nd := scLawLay.nd
  refine ⟨_, (pss_cons (ps_set (i := 6) nd rfl (.inl rfl) (pe_lst pa_nil))
  (pss_cons (ps_for PassesOwn.never rfl (pi_range1 (by rfl) m_range (pa_cons (pe_callB call_len_seq (by rfl) m_len PySem.boot_len (pa_cons (pv 0) pa_nil)) pa_nil)) (pg_name (i := 7) nd rfl (.inl rfl))
  (pss_cons (ps_set (i := 8) nd rfl (.inl rfl) (pe_ix ix_tup (pv 0) (pv 7) (fun _ _ => rfl)))
  (pss_cons (ps_set (i := 9) nd rfl (.inl rfl) (pe_op op_catA (pv 3) (pe_tup (pa_cons (pv 7) pa_nil))))
  (pss_one (ps_if (pt_cmpR op_eq (pe_ix ix_tup (pv 8) pe_int (fun _ _ => rfl)) pe_str (nomark _))
  (pss_one (ps_if (pt_cmpR op_ne (pe_call GV hr rfl mV kV bV .nil pass0 (pa_cons (pe_ix ix_tup (pv 8) pe_int (fun _ _ => rfl)) (pa_cons (pv 1) (pa_cons (pv 2) pa_nil)))) pe_int (nomark _))
  (pss_one (ps_set (i := 6) nd rfl (.inl rfl) (pe_op op_cat (pv 6) (pe_call GLl hr rfl mLl kLl bLl .nil pass0 (pa_cons (pe_ix ix_tup (pv 8) pe_int (fun _ _ => rfl)) (pa_cons (pv 1) (pa_cons (pv 2) (pa_cons (pe_op op_catA (pv 9) (pe_tup (pa_cons pe_int pa_nil))) (pa_cons (pv 4) (pa_cons (pv 5) pa_nil))))))))))
  (pss_one (ps_set (i := 6) nd rfl (.inl rfl) (pe_op op_cat (pv 6) (pe_call GLl hr rfl mLl kLl bLl .nil pass0 (pa_cons (pe_ix ix_tup (pv 8) pe_int (fun _ _ => rfl)) (pa_cons (pv 1) (pa_cons (pv 2) (pa_cons (pe_op op_catA (pv 9) (pe_tup (pa_cons pe_int pa_nil))) (pa_cons (pv 4) (pa_cons (pv 5) pa_nil))))))))))))
  (pss_one (ps_if (pt_cmpR op_eq (pe_ix ix_tup (pv 8) pe_int (fun _ _ => rfl)) pe_str (nomark _))
  (pss_one (ps_for PassesOwn.never rfl (pi_range1 (by rfl) m_range (pa_cons (pe_op op_mod (pe_callTy call_int1 (by rfl) m_int bo_int (pa_cons (pe_call GV hr rfl mV kV bV .nil pass0 (pa_cons (pe_ix ix_tup (pv 8) pe_int (fun _ _ => rfl)) (pa_cons (pv 1) (pa_cons (pv 2) pa_nil)))) pa_nil)) pe_int) pa_nil)) (pg_name (i := 10) nd rfl (.inl rfl))
  (pss_cons (ps_set (i := 11) nd rfl (.inl rfl) (pe_lst (pa_cons (pe_ix ix_list (pv 1) pe_int (fun _ _ => rfl)) (pa_cons (pe_ix ix_list (pv 1) pe_int (fun _ _ => rfl)) (pa_cons (pe_ix ix_list (pv 1) pe_int (fun _ _ => rfl)) (pa_cons (pv 10) pa_nil))))))
  (pss_one (ps_set (i := 6) nd rfl (.inl rfl) (pe_op op_cat (pv 6) (pe_call GLl hr rfl mLl kLl bLl .nil pass0 (pa_cons (pe_ix ix_tup (pv 8) pe_int (fun _ _ => rfl)) (pa_cons (pv 11) (pa_cons (pv 2) (pa_cons (pv 9) (pa_cons (pe_op op_catA (pv 4) (pe_tup (pa_cons (pv 10) pa_nil))) (pa_cons (pv 5) pa_nil)))))))))))))
  (pss_cons (ps_set (i := 12) nd rfl (.inl rfl) (pe_tup (pa_cons pe_str (pa_cons (pv 9) (pa_cons (pv 4) pa_nil)))))
  (pss_cut (ps_if (pt_cmpR op_eq (pe_ix ix_tup (pv 8) pe_int (fun _ _ => rfl)) pe_str (nomark _))
  (pss_one (ps_set (i := 12) nd rfl (.inl rfl) (pe_tup (pa_cons pe_str (pa_cons (pe_ix ix_tup (pv 8) pe_int (fun _ _ => rfl)) pa_nil)))))
  (pss_one (ps_if (PW.pt (pw_and (pt_cmpR op_in_seq (pe_ix ix_tup (pv 8) pe_int (fun _ _ => rfl)) (pe_lst (pa_cons pe_str (pa_cons pe_str pa_nil))) (by rfl)) (pw_and1 (pt_cmpR op_notN (pe_ix ix_tup (pv 8) pe_int (fun _ _ => rfl)) pe_non (nomark _)))))
  (pss_cons (ps_set (i := 13) nd rfl (.inl rfl) (pe_call GV hr rfl mV kV bV .nil pass0 (pa_cons (pe_ix ix_tup (pv 8) pe_int (fun _ _ => rfl)) (pa_cons (pv 1) (pa_cons (pv 2) pa_nil)))))
  (pss_one (ps_if (pt_cmpR (op_notInT (Room.units65 hr)) (pe_tup (pa_cons pe_str (pa_cons (pv 9) (pa_cons (pv 13) pa_nil)))) (pv 5) (by rfl))
  (pss_one (ps_set (i := 12) nd rfl (.inl rfl) (pe_tup (pa_cons pe_str (pa_cons (pv 9) (pa_cons (pv 13) pa_nil))))))
  pss_nil)))
  pss_nil)))
  (pss_cons (ps_expr (pe_bm PySem.F.plainAttrs_list PySem.F.slot_list_append PySem.F.type_list_append mt_append (pv 5) (pa_cons (pv 12) pa_nil)))
  (pss_one (ps_expr (pe_bm PySem.F.plainAttrs_list PySem.F.slot_list_append PySem.F.type_list_append mt_append (pv 6) (pa_cons (pe_lst (pa_cons (pv 12) (pa_cons (pv 8) (pa_cons (pe_ix ix_list (pv 1) pe_int (fun _ _ => rfl)) pa_nil)))) pa_nil))))))))))))))
  (pss_one (ps_ret (pv 6))))), ?_⟩
  obtain ⟨ac, xs, rfl, ec, pc⟩ := tt.inv
  obtain ⟨ab, rfl, eb⟩ := ta.ints
  obtain ⟨ar, rfl, er⟩ := tr.ints
  have hln : H l ≠ none := by rw [hL]; exact fun z => nomatch z
  have hnn : H nl ≠ none := by rw [hnL]; exact fun z => nomatch z
  have lxs := (paired_get pc).1
  rw [Tp.toTs_map, List.length_map] at lxs
  have lnL0 : nL0.length = tk.length := by rw [(paired_get hpn).1, List.length_map]
  refine ⟨sz, fun p hp => ?_⟩
  have o0 := Oth.new (S := [l, nl]) (o := .lst []) hp
  have npl : l ≠ p := ne_of_none hL hp
  have npn : nl ≠ p := ne_of_none hnL hp
  refine ⟨_, rfl, ac, xs, rfl, .inr (SqT.of (o0.tup _ _ ec)), _, rfl, by omega, by have := wts_len ts; omega, for_range (lo := 0) (n := ((xs.length : Nat) : Int).toNat)
    (fun i σ H1 => ∃ (x7 x8 x9 x10 x11 x12 x13 : Option V) (r : Addr), σ = [some (.ref ac), some (.ref sc), some (.ref l), some (.ref ab), some (.ref ar), some (.ref nl), some (.ref r), x7, x8, x9, x10, x11, x12, x13] ∧ LSt H l nl L tk H1 r (Tp.dis c be re 0 (ts.take i)) (Tp.lks c (ts.take i)))
    ⟨none, none, none, none, none, none, none, p, rfl, ⟨hp, o0, ⟨[], nL0, upd_same, (fun v hv => by cases hv), .nil, by rw [upd_ne npn]; exact hnL, by simpa [lawNamed, Tp.dis] using paired_oth hpn o0⟩, by rw [upd_ne npl]; simpa [Tp.lks] using hL, by simpa [lawNamed, Tp.dis] using hsh⟩⟩ (fun i σ H1 hi hW => ?_) (fun σ H1 hW => ?_)⟩
  · obtain ⟨x7, x8, x9, x10, x11, x12, x13, r, rfl, st⟩ := hW
    have hi : i < ts.length := by omega
    rw [show (0 : Int) + (i : Int) = (i : Int) from Int.zero_add _]
    obtain ⟨t, gt⟩ : ∃ t, ts[i]? = some t := ⟨ts[i], List.getElem?_eq_getElem hi⟩
    obtain ⟨x, hx⟩ : ∃ x, xs[i]? = some x := ⟨xs[i], List.getElem?_eq_getElem (by omega)⟩
    have ht : IsT H t.toT x := (paired_get pc).2 i _ _ (by rw [Tp.toTs_map, List.getElem?_map, gt]; rfl) hx
    have tm : t ∈ ts := List.mem_of_getElem? gt
    have wt := wts_take gt
    have dt := deps_mem tm
    have ft := fines_mem hf tm
    have llk : (Tp.lks c (ts.take i)).length ≤ Tp.wts (ts.take i) := Tp.lks_len _ _
    have lnm : ∀ ds : List Dr, ds.length ≤ Tp.wts ts → ∀ (H9 : Hp) (nL : List V), Paired (IsT H9) ((tk ++ (lawNamed tk ds).map (·.1)).map Nm.toT) nL → nL.length = nL0.length + ds.length := fun ds hds H9 nL pn => by
      rw [(paired_get pn).1, List.length_map, List.length_append, List.length_map, lawNamed_len, lnL0]
    have ldi : (Tp.dis c be re 0 (ts.take i)).length ≤ Tp.wts (ts.take i) := Tp.dis_len _ _ _ _ _
    refine ⟨_, rfl, _, rfl, ac, _, _, _, rfl, rfl, SqT.of (st.o.tup _ _ ec), atI_nat hx, ?_⟩
    -- the address
    refine ⟨_, rfl, _, rfl, sz, fun r1 hr1' => cat_t ((st.o.trans (Oth.new hr1')).tup _ _ eb) upd_same (by simp; omega) fun r2 H3 o3 e3 => ?_⟩
    have o13 := (Oth.new (S := []) (o := .tup [.int ((i : Nat) : Int)]) hr1').trans o3
    have st3 := st.oth o13
    have o03 := st3.o
    have e3' : H3 r2 = some (.tup ((be ++ [(i : Int)]).map V.int)) := by rw [e3, List.map_append]; rfl
    have ht3 := ht.oth o03
    have esc3 := o03.keep sc _ (by simp [nsl, nsn]) esc
    have ll3 : (L ++ (Tp.lks c (ts.take i)).map V.int).length = L.length + (Tp.lks c (ts.take i)).length := by rw [List.length_append, List.length_map]
    -- how a turn ends
    have fin : ∀ (H9 : Hp) (r' : Addr) (y10 y11 y12 y13 : Option V), LSt H l nl L tk H9 r' (Tp.dis c be re 0 (ts.take i) ++ t.dis1 c (be ++ [(i : Int)]) re) (Tp.lks c (ts.take i) ++ t.lk1 c) →
        ∃ (x7 x8 x9 x10 x11 x12 x13 : Option V) (r : Addr), ([some (.ref ac), some (.ref sc), some (.ref l), some (.ref ab), some (.ref ar), some (.ref nl), some (.ref r'), some (.int (i : Int)), some x, some (.ref r2), y10, y11, y12, y13] : L2.St) = [some (.ref ac), some (.ref sc), some (.ref l), some (.ref ab), some (.ref ar), some (.ref nl), some (.ref r), x7, x8, x9, x10, x11, x12, x13] ∧ LSt H l nl L tk H9 r (Tp.dis c be re 0 (ts.take (i + 1))) (Tp.lks c (ts.take (i + 1))) := fun H9 r' y10 y11 y12 y13 s9 => by
      refine ⟨_, _, _, _, _, _, _, r', rfl, ?_⟩
      rw [dis_take gt, lks_take gt]
      exact s9
    by_cases hn : t.node = true
    · -- a node
      obtain ⟨n1, n2⟩ := Tp.dis1_node t hn c (be ++ [(i : Int)]) re
      obtain ⟨at', rt, rfl, et⟩ := Tp.kindAt t ht3
      have nk := node_kind hn
      refine ⟨_, rfl, at', _, _, _, rfl, rfl, SqT.of et, at0, rfl, _, rfl, iteFd (by intro z; exact nk.1.symm (V.str.inj z)) ?_⟩
      refine ⟨_, rfl, at', _, _, _, rfl, rfl, SqT.of et, at0, rfl, _, rfl, iteFd (by intro z; exact nk.2.symm (V.str.inj z)) ?_⟩
      refine ⟨_, rfl, _, rfl, sz, fun r3 hr3 => ?_⟩
      have o4 := Oth.new (S := []) (o := .tup [.str "at", .ref r2, .ref ar]) hr3
      have st4 := st3.oth o4
      have e4 := o4.tup _ _ e3'
      have oth4 : IsT (upd H3 r3 (.tup [.str "at", .ref r2, .ref ar])) (Nm.at (be ++ [(i : Int)]) re).toT (.ref r3) := .mk3 upd_same (.str _) (.mkI e4) (.mkI (o4.tup _ _ (o03.tup _ _ er)))
      have et4 := o4.tup _ _ et
      obtain ⟨dr, hdr⟩ : ∃ dr : Dr, dr = ⟨t.wish c (be ++ [(i : Int)]) re, .at (be ++ [(i : Int)]) re, t, c.index⟩ := ⟨_, rfl⟩
      have lbe : (be ++ [(i : Int)]).length ≤ 1000 := by simp; omega
      refine ⟨fun σ H5 => ∃ (nv : V) (x13 : Option V), σ = [some (.ref ac), some (.ref sc), some (.ref l), some (.ref ab), some (.ref ar), some (.ref nl), some (.ref r), some (.int (i : Int)), some (.ref at'), some (.ref r2), x10, x11, some nv, x13] ∧ LSt H l nl L tk H5 r (Tp.dis c be re 0 (ts.take i)) (Tp.lks c (ts.take i) ++ t.lk1 c) ∧
          IsT H5 (lawName (tk ++ (lawNamed tk (Tp.dis c be re 0 (ts.take i))).map (·.1)) dr).toT nv ∧ (lawName (tk ++ (lawNamed tk (Tp.dis c be re 0 (ts.take i))).map (·.1)) dr).short ∧ IsT H5 t.toT (.ref at') ∧ H5 sc = some (.lst [.ref sa, .ref sp, .ref ss, .int c.index]), ?_, ?_⟩
      · -- the name
        have esc4 := o4.keep sc _ (by simp) esc3
        have plain : t.key? = none → (∀ k, t ≠ .part k) → LSt H l nl L tk (upd H3 r3 (.tup [.str "at", .ref r2, .ref ar])) r (Tp.dis c be re 0 (ts.take i)) (Tp.lks c (ts.take i) ++ t.lk1 c) ∧
            IsT (upd H3 r3 (.tup [.str "at", .ref r2, .ref ar])) (lawName (tk ++ (lawNamed tk (Tp.dis c be re 0 (ts.take i))).map (·.1)) dr).toT (.ref r3) ∧ (lawName (tk ++ (lawNamed tk (Tp.dis c be re 0 (ts.take i))).map (·.1)) dr).short ∧ IsT (upd H3 r3 (.tup [.str "at", .ref r2, .ref ar])) t.toT (.ref at') ∧ (upd H3 r3 (.tup [.str "at", .ref r2, .ref ar])) sc = some (.lst [.ref sa, .ref sp, .ref ss, .int c.index]) := fun hk hnp => by
          have hw : t.wish c (be ++ [(i : Int)]) re = .at (be ++ [(i : Int)]) re := by
            cases t with
            | part k => exact absurd rfl (hnp k)
            | _ => simp only [Tp.wish]; rw [hk]; rfl
          have hl : lawName (tk ++ (lawNamed tk (Tp.dis c be re 0 (ts.take i))).map (·.1)) dr = .at (be ++ [(i : Int)]) re := by rw [hdr]; simp only [lawName, hw]
          have hlk : t.lk1 c = [] := by rw [n2, hk]; rfl
          rw [hl, hlk, List.append_nil]
          exact ⟨st4, oth4, ⟨lbe, by omega⟩, ht3.oth o4, esc4⟩
        cases t with
        | part kp =>
          obtain ⟨a, _, v1, hv, ha, p0, p1⟩ := IsT.inv2 ht3
          cases hv
          have ha4 := o4.tup _ _ ha
          refine ⟨_, rfl, at', _, _, _, rfl, rfl, SqT.of et4, at0, rfl, _, rfl, iteTd rfl ?_⟩
          refine ⟨_, rfl, at', _, _, _, rfl, rfl, SqT.of ha4, at1, sz, fun r5 hr5 => ?_⟩
          have o5 := Oth.new (S := []) (o := .tup [.str "part", v1]) hr5
          have hl : lawName (tk ++ (lawNamed tk (Tp.dis c be re 0 (ts.take i))).map (·.1)) dr = .part kp := by rw [hdr]; rfl
          rw [hl, show (Tp.part kp).lk1 c = [] from rfl, List.append_nil]
          exact ⟨_, _, rfl, st4.oth o5, .mk2 upd_same (.str _) ((p1.oth o4).oth o5), trivial, (ht3.oth o4).oth o5, o5.keep _ _ (by simp) esc4⟩
        | when _ _ _ => cases hn
        | each _ _ => cases hn
        | box tag key act cs =>
          obtain ⟨a, _, v1, v2, v3, v4, hv, ha, p0, p1, p2, p3, p4⟩ := IsT.inv5 ht3
          cases hv
          have ha4 := o4.tup _ _ ha
          refine ⟨_, rfl, at', _, _, _, rfl, rfl, SqT.of et4, at0, rfl, _, rfl, iteFd (by simp only [Tp.kind]; decide) ?_⟩
          refine ⟨_, rfl, at', _, _, _, rfl, rfl, SqT.of et4, at0, sz, fun l0 hl0 => ⟨l0, _, rfl, .inl (SqL.of upd_same), rfl, rfl, _, rfl, iteTb (by simp only [Tp.kind]; decide) ?_⟩⟩
          have o5 := Oth.new (S := []) (o := .lst [.str "box", .str "child"]) hl0
          cases key with
          | none =>
            obtain rfl := (p2).of_non
            refine ⟨_, rfl, at', _, _, _, rfl, rfl, SqT.of (o5.tup _ _ ha4), at2, rfl, _, rfl, iteF ?_⟩
            obtain ⟨h2, h3, h4, h5, h6⟩ := plain rfl (fun k h => by cases h)
            exact ⟨_, _, rfl, h2.oth o5, h3.oth o5, h4, h5.oth o5, o5.keep _ _ (by simp) h6⟩
          | some e =>
            obtain ⟨ak, rfl⟩ : ∃ a, v2 = .ref a := by
              cases e <;> (obtain ⟨a, xs, rfl, _⟩ := IsT.inv (p2); exact ⟨a, rfl⟩)
            have o45 := o4.trans o5
            have st5 := st4.oth o5
            have o05 := st5.o
            refine ⟨_, rfl, at', _, _, _, rfl, rfl, SqT.of (o5.tup _ _ ha4), at2, rfl, _, rfl, iteT ?_⟩
            simp only [Tp.wt, ksz] at wt
            refine ⟨_, rfl, at', _, _, _, rfl, rfl, SqT.of (o5.tup _ _ ha4), at2, _, rfl, _, rfl, e, c, _, sc, sa, sp, ss, l, _, rfl, (p2).oth o45, o5.keep _ _ (by simp) esc4, o05.tup _ _ esa, o05.tup _ _ esp, o05.tup _ _ ess, nsl, st5.lk, by have := ft.1 e rfl; omega, by rw [ll3]; omega, fun H6 l6 o6 => ?_⟩
            have hlk : (Tp.box tag (some e) act cs).lk1 c = e.looks c := rfl
            have st6 := st5.look hln nln o6 l6
            rw [hlk]
            have e6 := o6.tup _ _ (o5.tup _ _ e4)
            refine ⟨_, rfl, _, rfl, sz, fun r7 hr7 => ?_⟩
            have o7 := Oth.new (S := []) (o := .tup [.str "key", .ref r2, .int (e.val c)]) hr7
            have st7 := st6.oth o7
            have tk7 : IsT (upd H6 r7 (.tup [.str "key", .ref r2, .int (e.val c)])) (Nm.key (be ++ [(i : Int)]) (e.val c)).toT (.ref r7) := .mk3 upd_same (.str _) (.mkI (o7.tup _ _ e6)) (.int _)
            obtain ⟨rs7, nL7, er7, fr7, it7, en7, pn7⟩ := st7.ex
            have shk : (Nm.key (be ++ [(i : Int)]) (e.val c)).short := lbe
            refine ⟨_, rfl, _, _, nl, nL7, tk7, rfl, SqL.of en7, pn7, Nm.eqb shk, fun u hu => ?_, _, rfl, ?_⟩
            · obtain ⟨nm, hnm, rfl⟩ := List.mem_map.mp hu
              exact Nm.eqb (st7.sh nm hnm)
            have hln2 : lawName (tk ++ (lawNamed tk (Tp.dis c be re 0 (ts.take i))).map (·.1)) dr = if Nm.key (be ++ [(i : Int)]) (e.val c) ∈ tk ++ (lawNamed tk (Tp.dis c be re 0 (ts.take i))).map (·.1) then .at (be ++ [(i : Int)]) re else .key (be ++ [(i : Int)]) (e.val c) := by rw [hdr]; rfl
            rw [hln2]
            have t7 := (((ht3.oth o4).oth o5).oth o6).oth o7
            have esc7 := o7.keep sc _ (by simp) (o6.keep sc _ (by simp [nsl]) (o5.keep sc _ (by simp) esc4))
            by_cases hm : Nm.key (be ++ [(i : Int)]) (e.val c) ∈ tk ++ (lawNamed tk (Tp.dis c be re 0 (ts.take i))).map (·.1)
            · rw [if_pos hm]
              refine iteFb (by show (!decide _) = false; rw [decide_eq_true (mem_nks.mpr hm)]; rfl) ?_
              exact ⟨_, _, rfl, st7, ((oth4.oth o5).oth o6).oth o7, ⟨lbe, by omega⟩, t7, esc7⟩
            · rw [if_neg hm]
              refine iteTb (by show (!decide _) = true; rw [decide_eq_false (fun z => hm (mem_nks.mp z))]; rfl) ?_
              refine ⟨_, rfl, _, rfl, sz, fun r8 hr8 => ?_⟩
              have o8 := Oth.new (S := []) (o := .tup [.str "key", .ref r2, .int (e.val c)]) hr8
              exact ⟨_, _, rfl, st7.oth o8, .mk3 upd_same (.str _) (.mkI (o8.tup _ _ (o7.tup _ _ e6))) (.int _), lbe, t7.oth o8, o8.keep _ _ (by simp) esc7⟩
        | child cn key props =>
          obtain ⟨a, _, v1, v2, v3, hv, ha, p0, p1, p2, p3⟩ := IsT.inv4 ht3
          cases hv
          have ha4 := o4.tup _ _ ha
          refine ⟨_, rfl, at', _, _, _, rfl, rfl, SqT.of et4, at0, rfl, _, rfl, iteFd (by simp only [Tp.kind]; decide) ?_⟩
          refine ⟨_, rfl, at', _, _, _, rfl, rfl, SqT.of et4, at0, sz, fun l0 hl0 => ⟨l0, _, rfl, .inl (SqL.of upd_same), rfl, rfl, _, rfl, iteTb (by simp only [Tp.kind]; decide) ?_⟩⟩
          have o5 := Oth.new (S := []) (o := .lst [.str "box", .str "child"]) hl0
          cases key with
          | none =>
            obtain rfl := (p2).of_non
            refine ⟨_, rfl, at', _, _, _, rfl, rfl, SqT.of (o5.tup _ _ ha4), at2, rfl, _, rfl, iteF ?_⟩
            obtain ⟨h2, h3, h4, h5, h6⟩ := plain rfl (fun k h => by cases h)
            exact ⟨_, _, rfl, h2.oth o5, h3.oth o5, h4, h5.oth o5, o5.keep _ _ (by simp) h6⟩
          | some e =>
            obtain ⟨ak, rfl⟩ : ∃ a, v2 = .ref a := by
              cases e <;> (obtain ⟨a, xs, rfl, _⟩ := IsT.inv (p2); exact ⟨a, rfl⟩)
            have o45 := o4.trans o5
            have st5 := st4.oth o5
            have o05 := st5.o
            refine ⟨_, rfl, at', _, _, _, rfl, rfl, SqT.of (o5.tup _ _ ha4), at2, rfl, _, rfl, iteT ?_⟩
            simp only [Tp.wt, ksz] at wt
            refine ⟨_, rfl, at', _, _, _, rfl, rfl, SqT.of (o5.tup _ _ ha4), at2, _, rfl, _, rfl, e, c, _, sc, sa, sp, ss, l, _, rfl, (p2).oth o45, o5.keep _ _ (by simp) esc4, o05.tup _ _ esa, o05.tup _ _ esp, o05.tup _ _ ess, nsl, st5.lk, by have := ft.1 e rfl; omega, by rw [ll3]; omega, fun H6 l6 o6 => ?_⟩
            have hlk : (Tp.child cn (some e) props).lk1 c = e.looks c := rfl
            have st6 := st5.look hln nln o6 l6
            rw [hlk]
            have e6 := o6.tup _ _ (o5.tup _ _ e4)
            refine ⟨_, rfl, _, rfl, sz, fun r7 hr7 => ?_⟩
            have o7 := Oth.new (S := []) (o := .tup [.str "key", .ref r2, .int (e.val c)]) hr7
            have st7 := st6.oth o7
            have tk7 : IsT (upd H6 r7 (.tup [.str "key", .ref r2, .int (e.val c)])) (Nm.key (be ++ [(i : Int)]) (e.val c)).toT (.ref r7) := .mk3 upd_same (.str _) (.mkI (o7.tup _ _ e6)) (.int _)
            obtain ⟨rs7, nL7, er7, fr7, it7, en7, pn7⟩ := st7.ex
            have shk : (Nm.key (be ++ [(i : Int)]) (e.val c)).short := lbe
            refine ⟨_, rfl, _, _, nl, nL7, tk7, rfl, SqL.of en7, pn7, Nm.eqb shk, fun u hu => ?_, _, rfl, ?_⟩
            · obtain ⟨nm, hnm, rfl⟩ := List.mem_map.mp hu
              exact Nm.eqb (st7.sh nm hnm)
            have hln2 : lawName (tk ++ (lawNamed tk (Tp.dis c be re 0 (ts.take i))).map (·.1)) dr = if Nm.key (be ++ [(i : Int)]) (e.val c) ∈ tk ++ (lawNamed tk (Tp.dis c be re 0 (ts.take i))).map (·.1) then .at (be ++ [(i : Int)]) re else .key (be ++ [(i : Int)]) (e.val c) := by rw [hdr]; rfl
            rw [hln2]
            have t7 := (((ht3.oth o4).oth o5).oth o6).oth o7
            have esc7 := o7.keep sc _ (by simp) (o6.keep sc _ (by simp [nsl]) (o5.keep sc _ (by simp) esc4))
            by_cases hm : Nm.key (be ++ [(i : Int)]) (e.val c) ∈ tk ++ (lawNamed tk (Tp.dis c be re 0 (ts.take i))).map (·.1)
            · rw [if_pos hm]
              refine iteFb (by show (!decide _) = false; rw [decide_eq_true (mem_nks.mpr hm)]; rfl) ?_
              exact ⟨_, _, rfl, st7, ((oth4.oth o5).oth o6).oth o7, ⟨lbe, by omega⟩, t7, esc7⟩
            · rw [if_neg hm]
              refine iteTb (by show (!decide _) = true; rw [decide_eq_false (fun z => hm (mem_nks.mp z))]; rfl) ?_
              refine ⟨_, rfl, _, rfl, sz, fun r8 hr8 => ?_⟩
              have o8 := Oth.new (S := []) (o := .tup [.str "key", .ref r2, .int (e.val c)]) hr8
              exact ⟨_, _, rfl, st7.oth o8, .mk3 upd_same (.str _) (.mkI (o8.tup _ _ (o7.tup _ _ e6))) (.int _), lbe, t7.oth o8, o8.keep _ _ (by simp) esc7⟩
        | _ =>
          refine ⟨_, rfl, at', _, _, _, rfl, rfl, SqT.of et4, at0, rfl, _, rfl, iteFd (by simp only [Tp.kind]; decide) ?_⟩
          refine ⟨_, rfl, at', _, _, _, rfl, rfl, SqT.of et4, at0, sz, fun l0 hl0 => ⟨l0, _, rfl, .inl (SqL.of upd_same), rfl, rfl, _, rfl, iteFb (by simp only [Tp.kind]; decide) (iteF ?_)⟩⟩
          have o5 := Oth.new (S := []) (o := .lst [.str "box", .str "child"]) hl0
          obtain ⟨h2, h3, h4, h5, h6⟩ := plain rfl (fun k h => by cases h)
          exact ⟨_, _, rfl, h2.oth o5, h3.oth o5, h4, h5.oth o5, o5.keep _ _ (by simp) h6⟩
      · rintro σ H5 ⟨nv, y13, rfl, st5, tn5, sh5, t5, esc5⟩
        obtain ⟨rs, nL, er, fr, it, enl, pn⟩ := st5.ex
        have lnL := lnm _ (by omega) _ _ pn
        have lrs : rs.length ≤ 50000 := by rw [it.len, lawNamed_len]; omega
        refine ⟨_, rfl, .inl ⟨rfl, _, SqL.of enl⟩, _, rfl, nl, _, _, rfl, rfl, enl, Nat.lt_of_le_of_lt (by omega : nL.length ≤ 100000) (by decide), ?_⟩
        have o6 : Oth [nl] H5 (upd H5 nl (.lst (nL ++ [nv]))) := Oth.put (by simp) enl
        have er6 := o6.keep r _ (by simp [st5.nn hnn]) er
        refine ⟨_, rfl, .inl ⟨rfl, _, SqL.of er6⟩, _, rfl, _, rfl, _, rfl, sc, _, _, _, rfl, rfl, SqL.of (o6.keep sc _ (by simp [nsn]) esc5), at3, sz, fun r7 hr7 => ?_⟩
        have o7 := Oth.new (S := []) (o := .lst [nv, .ref at', .int c.index]) hr7
        refine ⟨r, _, _, rfl, rfl, o7.keep _ _ (by simp) er6, Nat.lt_of_le_of_lt lrs (by decide), ?_⟩
        refine fin _ r _ _ _ _ ?_
        rw [n1, ← hdr]
        have hdt : dr.tp = t := by rw [hdr]
        have hdi : dr.idx = c.index := by rw [hdr]
        have := st5.one hln hnn nln er fr it enl pn tn5 (by rw [hdt]; exact t5) sh5 (q := r7) hr7
        rw [hdi] at this
        exact this
    · cases t with
      | when e cs os =>
        obtain ⟨a, _, v1, v2, v3, rfl, ha, p0, p1, p2, p3⟩ := IsT.inv4 ht3
        obtain rfl := p0.of_str
        simp only [Tp.wt] at wt
        simp only [Tp.dep] at dt
        refine ⟨_, rfl, a, _, _, _, rfl, rfl, SqT.of ha, at0, rfl, _, rfl, iteTd rfl ?_⟩
        refine ⟨_, rfl, a, _, _, _, rfl, rfl, SqT.of ha, at1, _, rfl, _, rfl, e, c, _, sc, sa, sp, ss, l, _, rfl, p1, esc3, o03.tup _ _ esa, o03.tup _ _ esp, o03.tup _ _ ess, nsl, st3.lk, by have := ft.1; omega, by rw [ll3]; omega, fun H4 l4 o4 => ?_⟩
        have le := e.looks_le c
        have st4 := st3.look hln nln o4 l4
        have lk4 : (Tp.lks c (ts.take i) ++ e.looks c).length = (Tp.lks c (ts.take i)).length + (e.looks c).length := List.length_append
        have o04 := st4.o
        have esc4 := o04.keep sc _ (by simp [nsl, nsn]) esc
        refine ⟨rfl, _, rfl, ite2 (fun c1 => ?_) (fun c1 => ?_)⟩
        · have hv : ¬ e.val c = 0 := fun z => by rw [z] at c1; simp at c1
          refine ⟨_, rfl, _, rfl, a, _, _, _, rfl, rfl, SqT.of (o4.tup _ _ ha), at2, _, rfl, _, rfl, _, rfl, sz, fun r5 hr5 => cat_t ((o4.trans (Oth.new hr5)).tup _ _ e3') upd_same (by simp; omega) fun r6 H6 o6 e6 => ⟨_, rfl, _, rfl, ?_⟩⟩
          have o46 := (Oth.new (S := []) (o := .tup [.int 0]) hr5).trans o6
          have st6 := st4.oth o46
          have o06 := st6.o
          refine lay_sub st6 hln hnn nln (E := E') (c := c) (be := be ++ [(i : Int)] ++ [0]) (re := re) ((p2.oth o4).oth o46) (.mkI (by rw [e6, ← List.map_singleton (f := V.int), ← List.map_append])) (.mkI (o06.tup _ _ er)) (o46.keep _ _ (by simp) esc4) (o06.tup _ _ esa) (o06.tup _ _ esp) (o06.tup _ _ ess) nsl nsn (by omega) ft.2.1 (by rw [lk4]; omega) (by omega) (by simp; omega) (by omega) fun p9 H9 s9 o9 => fin H9 p9 _ _ _ _ ?_
          simp only [Tp.dis1, if_neg hv, Tp.lk1]
          rw [List.append_assoc (Tp.lks c (ts.take i)) (e.looks c)] at s9
          exact s9
        · have hv : e.val c = 0 := Decidable.byContradiction fun z => c1 (by simp [z])
          refine ⟨_, rfl, _, rfl, a, _, _, _, rfl, rfl, SqT.of (o4.tup _ _ ha), at3, _, rfl, _, rfl, _, rfl, sz, fun r5 hr5 => cat_t ((o4.trans (Oth.new hr5)).tup _ _ e3') upd_same (by simp; omega) fun r6 H6 o6 e6 => ⟨_, rfl, _, rfl, ?_⟩⟩
          have o46 := (Oth.new (S := []) (o := .tup [.int 1]) hr5).trans o6
          have st6 := st4.oth o46
          have o06 := st6.o
          refine lay_sub st6 hln hnn nln (E := E') (c := c) (be := be ++ [(i : Int)] ++ [1]) (re := re) ((p3.oth o4).oth o46) (.mkI (by rw [e6, ← List.map_singleton (f := V.int), ← List.map_append])) (.mkI (o06.tup _ _ er)) (o46.keep _ _ (by simp) esc4) (o06.tup _ _ esa) (o06.tup _ _ esp) (o06.tup _ _ ess) nsl nsn (by omega) ft.2.2 (by rw [lk4]; omega) (by omega) (by simp; omega) (by omega) fun p9 H9 s9 o9 => fin H9 p9 _ _ _ _ ?_
          simp only [Tp.dis1, if_pos hv, Tp.lk1]
          rw [List.append_assoc (Tp.lks c (ts.take i)) (e.looks c)] at s9
          exact s9
      | each e cs =>
        obtain ⟨a, _, v1, v2, rfl, ha, p0, p1, p2⟩ := IsT.inv3 ht3
        obtain rfl := p0.of_str
        simp only [Tp.wt] at wt
        simp only [Tp.dep] at dt
        refine ⟨_, rfl, a, _, _, _, rfl, rfl, SqT.of ha, at0, rfl, _, rfl, iteFd (by intro z; exact absurd (V.str.inj z) (by decide)) ?_⟩
        refine ⟨_, rfl, a, _, _, _, rfl, rfl, SqT.of ha, at0, rfl, _, rfl, iteTd rfl ?_⟩
        refine ⟨_, rfl, a, _, _, _, rfl, rfl, SqT.of ha, at1, _, rfl, _, rfl, e, c, _, sc, sa, sp, ss, l, _, rfl, p1, esc3, o03.tup _ _ esa, o03.tup _ _ esp, o03.tup _ _ ess, nsl, st3.lk, by have := ft.1; omega, by rw [ll3]; omega, fun H4 l4 o4 => ?_⟩
        have le := e.looks_le c
        have st4 := st3.look hln nln o4 l4
        have m6 := mod6 (e.val c)
        have oo4 : Oth [l, nl] H3 H4 := o4.mono (by simp)
        refine .inl ⟨_, rfl, _, _, rfl, rfl, (by show (0 : Int) < 6; decide), _, rfl, by omega, by omega, for_range (lo := 0) (n := (e.val c % 6).toNat)
          (fun j σ H5 => ∃ (y10 y11 : Option V) (r' : Addr), σ = [some (.ref ac), some (.ref sc), some (.ref l), some (.ref ab), some (.ref ar), some (.ref nl), some (.ref r'), some (.int (i : Int)), some (.ref a), some (.ref r2), y10, y11, x12, x13] ∧ Oth [l, nl] H3 H5 ∧
            LSt H l nl L tk H5 r' (Tp.dis c be re 0 (ts.take i) ++ ((List.range j).flatMap fun (m : Nat) => Tp.dis { c with index := (m : Int) } (be ++ [(i : Int)]) (re ++ [(m : Int)]) 0 cs)) (Tp.lks c (ts.take i) ++ e.looks c ++ ((List.range j).flatMap fun (m : Nat) => Tp.lks { c with index := (m : Int) } cs)))
          ⟨_, _, r, rfl, oo4, by simpa using st4⟩ (fun j σ H5 hj hW => ?_) (fun σ H5 hW => ?_)⟩
        · obtain ⟨y10, y11, r', rfl, o5, st5⟩ := hW
          rw [show (0 : Int) + (j : Int) = (j : Int) from Int.zero_add _]
          have j5 : j ≤ 4 := by omega
          have lz1 := flat_len (f := fun m : Nat => Tp.dis { c with index := (m : Int) } (be ++ [(i : Int)]) (re ++ [(m : Int)]) 0 cs) (m := Tp.wts cs) (fun m => Tp.dis_len cs _ _ _ _) j
          have lz2 := flat_len (f := fun m : Nat => Tp.lks { c with index := (m : Int) } cs) (m := Tp.wts cs) (fun m => Tp.lks_len cs _) j
          have jm : j * Tp.wts cs ≤ 4 * Tp.wts cs := Nat.mul_le_mul_right _ j5
          have o05 := st5.o
          have esc5 := o05.keep sc _ (by simp [nsl, nsn]) esc
          refine ⟨_, rfl, sc, _, _, _, rfl, rfl, SqL.of esc5, at0, _, rfl, sc, _, _, _, rfl, rfl, SqL.of esc5, at1, _, rfl, sc, _, _, _, rfl, rfl, SqL.of esc5, at2, _, rfl, sz, fun r6 hr6 => ?_⟩
          have o6 := Oth.new (S := []) (o := .lst [.ref sa, .ref sp, .ref ss, .int (j : Int)]) hr6
          have st6 := st5.oth o6
          have n6l : r6 ≠ l := (ne_of_none st5.lk hr6).symm
          have n6n : r6 ≠ nl := by
            obtain ⟨_, _, _, _, _, e, _⟩ := st5.ex
            exact (ne_of_none e hr6).symm
          refine ⟨_, rfl, _, rfl, a, _, _, _, rfl, rfl, SqT.of (o6.tup _ _ (o5.tup _ _ ha)), at2, _, rfl, _, rfl, _, rfl, _, rfl, _, rfl, sz, fun r7 hr7 => cat_t ((st6.o.trans (Oth.new hr7)).tup _ _ er) upd_same (by simp; omega) fun r8 H8 o8 e8 => ⟨_, rfl, ?_⟩⟩
          have o68 := (Oth.new (S := []) (o := .tup [.int (j : Int)]) hr7).trans o8
          have st8 := st6.oth o68
          have o08 := st8.o
          have o58 := o6.trans o68
          have o38 := o5.trans (o58.mono (by simp))
          refine lay_sub st8 hln hnn nln (E := E') (c := { c with index := (j : Int) }) (be := be ++ [(i : Int)]) (re := re ++ [(j : Int)]) (((p2.oth o5).oth o6).oth o68) (.mkI (o38.tup _ _ e3')) (.mkI (by rw [e8, List.map_append]; rfl)) (o68.keep _ _ (by simp) upd_same) (o08.tup _ _ esa) (o08.tup _ _ esp) (o08.tup _ _ ess) n6l n6n (by omega) ft.2 (by simp only [List.length_append]; omega) (by simp only [List.length_append]; omega) (by simp; omega) (by simp; omega) fun p9 H9 s9 o9 => ?_
          refine ⟨_, _, p9, rfl, o38.trans o9, ?_⟩
          rw [flat_succ, flat_succ, ← List.append_assoc, ← List.append_assoc (bs := List.flatMap _ _)]
          exact s9
        · obtain ⟨y10, y11, r', rfl, o5, st5⟩ := hW
          refine fin H5 r' _ _ _ _ ?_
          simp only [Tp.dis1, Tp.lk1]
          rw [List.append_assoc] at st5
          exact st5
      | _ => exact absurd rfl hn
  · obtain ⟨x7, x8, x9, x10, x11, x12, x13, r, rfl, st⟩ := hW
    rw [show ((xs.length : Nat) : Int).toNat = ts.length by omega, List.take_length] at st
    obtain ⟨rs, nL, e1, fr, it, e2, pn⟩ := st.ex
    exact ⟨_, rfl, q r H1 rs nL st.rn e1 fr it st.lk e2 pn (fun n hn => st.sh n (List.mem_append_right _ hn)) st.o⟩
end
abbrev sLawFill : Stmt := topS 51
theorem scLawFill : FnScope ["about", "owner", "scope", "looked", "contents", "path", "nodes", "item", "here", "row", "inner", "value_v", "props", "e"] ["about", "owner", "scope", "looked", "contents", "path"] (defScope sLawFill) := ⟨rfl, rfl, rfl, by decide +kernel, rfl, by decide +kernel, by decide +kernel⟩
section
variable {P : Program} {w : World} {K : PySem.W.Frag} {mg : Str → Option Value} {base : Heap}
theorem ok_lawfill {f fL fV fC : Addr} {fd dL dV dC : FuncData} {k n : Nat} (F : Fun K "_law_fill" "_law_fill" sLawFill f fd)
    (GLf : FnOk P w K mg base CX0 k f fd ["about", "owner", "scope", "looked", "contents", "path"] (spLawFill n)) (bLf : Binds K fd ["about", "owner", "scope", "looked", "contents", "path"] []) (kLf : PySem.W.keepIn K (.ref f) = true) (mLf : mg "_law_fill" = some (.ref f))
    (GLl : FnOk P w K mg base CX0 k fL dL ["contents", "scope", "looked", "address", "repeats", "names"] (spLawLay 4)) (bLl : Binds K dL ["contents", "scope", "looked", "address", "repeats", "names"] []) (kLl : PySem.W.keepIn K (.ref fL) = true) (mLl : mg "_law_lay" = some (.ref fL))
    (GV : FnOk P w K mg base CX0 k fV dV ["e", "scope", "looked"] (spLawValue 4)) (bV : Binds K dV ["e", "scope", "looked"] []) (kV : PySem.W.keepIn K (.ref fV) = true) (mV : mg "_law_value" = some (.ref fV))
    (GLc : FnOk P w K mg base CX0 k fC dC ["about", "path", "number", "props"] (spLawChild n)) (bLc : Binds K dC ["about", "path", "number", "props"] []) (kLc : PySem.W.keepIn K (.ref fC) = true) (mLc : mg "_law_child" = some (.ref fC))
    (m_len : mg "len" = none) (m_min : mg "min" = none) (m_str : mg "str" = none) (m_tuple : mg "tuple" = none) :
    FnOk P w K mg base CX0 (k + 1) f fd ["about", "owner", "scope", "looked", "contents", "path"] (spLawFill (n + 1)) := by
  refine F.ok scLawFill (fun vs H Q E h => ?_) (fun cdv A outer s H vs Q E' hr h => ?_)
  · obtain ⟨X, own, free, o, p, c, ts, vo, vt, vp, ab, s, sa, sp, ss, l, L, rfl, _⟩ := h
    rfl
  obtain ⟨X, own, free, o, p, c, ts, vo, vt, vp, ab, sc, sa, sp, ss, l, L, rfl, hab, gX, to, esc, esa, esp, ess, hL, tt, tp, csm, hown, hok, hwt, hdp, hrk, hz, nabl, nscl, pok, hpl, q⟩ := h
  have nd := scLawFill.nd
  refine ⟨_, (pss_cons (ps_set (i := 6) nd rfl (.inl rfl) (pe_lst pa_nil))
  (pss_cons (ps_for PassesOwn.never rfl (pi_list (pe_call GLl hr rfl mLl kLl bLl .nil pass0 (pa_cons (pv 4) (pa_cons (pv 2) (pa_cons (pv 3) (pa_cons (pe_tup pa_nil) (pa_cons (pe_tup pa_nil) (pa_cons (pe_lst pa_nil) pa_nil)))))))) (pg_name (i := 7) nd rfl (.inl rfl))
  (pss_cons (ps_set (i := 8) nd rfl (.inl rfl) (pe_op op_catA (pv 5) (pe_tup (pa_cons (pe_ix ix_list (pv 7) pe_int (fun _ _ => rfl)) pa_nil))))
  (pss_cons (ps_set (i := 9) nd rfl (.inl rfl) (pe_ix ix_list (pv 7) pe_int (fun _ _ => rfl)))
  (pss_cons (ps_set (i := 10) nd rfl (.inr rfl) (pe_lst (pa_cons (pe_ix ix_list (pv 2) pe_int (fun _ _ => rfl)) (pa_cons (pe_ix ix_list (pv 2) pe_int (fun _ _ => rfl)) (pa_cons (pe_ix ix_list (pv 2) pe_int (fun _ _ => rfl)) (pa_cons (pe_ix ix_list (pv 7) pe_int (fun _ _ => rfl)) pa_nil))))))
  (pss_one (ps_if (pt_cmpR op_eq (pe_ix ix_tup (pv 9) pe_int (fun _ _ => rfl)) pe_str (nomark _))
  (pss_one (ps_expr (pe_bm PySem.F.plainAttrs_list PySem.F.slot_list_append PySem.F.type_list_append mt_append (pv 6) (pa_cons (pe_tup (pa_cons pe_str (pa_cons (pv 8) (pa_cons (pe_ix ix_tup (pv 9) pe_int (fun _ _ => rfl)) pa_nil)))) pa_nil))))
  (pss_one (ps_if (pt_cmpR op_eq (pe_ix ix_tup (pv 9) pe_int (fun _ _ => rfl)) pe_str (nomark _))
  (pss_one (ps_expr (pe_bm PySem.F.plainAttrs_list PySem.F.slot_list_append PySem.F.type_list_append mt_append (pv 6) (pa_cons (pe_tup (pa_cons pe_str (pa_cons (pv 8) (pa_cons (pe_callTy call_str_int (by rfl) m_str bo_str (pa_cons (pe_call GV hr rfl mV kV bV .nil pass0 (pa_cons (pe_ix ix_tup (pv 9) pe_int (fun _ _ => rfl)) (pa_cons (pv 10) (pa_cons (pv 3) pa_nil)))) pa_nil)) pa_nil)))) pa_nil))))
  (pss_one (ps_if (pt_cmpR op_eq (pe_ix ix_tup (pv 9) pe_int (fun _ _ => rfl)) pe_str (nomark _))
  (pss_cons (ps_set (i := 11) nd rfl (.inl rfl) (pe_ix ix_tup (pe_op op_catA (pe_ix ix_list (pv 2) pe_int (fun _ _ => rfl)) (pe_tup (pa_cons pe_int pa_nil))) (pe_callB (call_min2 rfl) (by rfl) m_min bo_min (pa_cons (pe_ix ix_tup (pv 9) pe_int (fun _ _ => rfl)) (pa_cons (pe_callB call_len_seq (by rfl) m_len PySem.boot_len (pa_cons (pe_ix ix_list (pv 2) pe_int (fun _ _ => rfl)) pa_nil)) pa_nil))) (fun _ _ => rfl)))
  (pss_one (ps_expr (pe_bm PySem.F.plainAttrs_list PySem.F.slot_list_append PySem.F.type_list_append mt_append (pv 6) (pa_cons (pe_tup (pa_cons pe_str (pa_cons (pv 8) (pa_cons (pe_ix ix_tup (pv 9) pe_int (fun _ _ => rfl)) (pa_cons (pv 1) (pa_cons (pe_ix ix_tup (pv 9) pe_int (fun _ _ => rfl)) (pa_cons (pv 11) pa_nil))))))) pa_nil)))))
  (pss_one (ps_if (pt_cmpR op_eq (pe_ix ix_tup (pv 9) pe_int (fun _ _ => rfl)) pe_str (nomark _))
  (pss_one (ps_expr (pe_bm PySem.F.plainAttrs_list PySem.F.slot_list_append PySem.F.type_list_append mt_append (pv 6) (pa_cons (pe_tup (pa_cons pe_str (pa_cons (pv 8) (pa_cons (pe_ix ix_tup (pv 9) pe_int (fun _ _ => rfl)) (pa_cons (pv 1) (pa_cons (pe_ix ix_tup (pv 9) pe_int (fun _ _ => rfl)) (pa_cons (pe_call GLf hr rfl mLf kLf bLf .nil pass0 (pa_cons (pv 0) (pa_cons (pv 1) (pa_cons (pv 10) (pa_cons (pv 3) (pa_cons (pe_ix ix_tup (pv 9) pe_int (fun _ _ => rfl)) (pa_cons (pv 8) pa_nil))))))) pa_nil))))))) pa_nil))))
  (pss_one (ps_if (pt_cmpR op_eq (pe_ix ix_tup (pv 9) pe_int (fun _ _ => rfl)) pe_str (nomark _))
  (pss_cons (ps_set (i := 12) nd rfl (.inl rfl) (pe_tupleOf (by rfl) m_tuple (pe_lc (own := [("e", 13)]) (g := gName 13) (tt := tYes) rfl nd (pi_tup (pe_ix ix_tup (pv 9) pe_int (fun _ _ => rfl))) (blkOk_by (N := ["about", "owner", "scope", "looked", "contents", "path", "nodes", "item", "here", "row", "inner", "value_v", "props", "e"]) (sc := defScope sLawFill) (by decide +kernel)) (fun _ _ _ _ _ => (pg_name (i := 13) nd rfl (.inl rfl))) (fun _ _ _ _ _ => pts_nil) (fun _ _ _ _ _ => (pe_call GV hr rfl mV kV bV .nil pass0 (pa_cons (pv 13) (pa_cons (pv 10) (pa_cons (pv 3) pa_nil))))))))
  (pss_one (ps_expr (pe_bm PySem.F.plainAttrs_list PySem.F.slot_list_append PySem.F.type_list_append mt_append (pv 6) (pa_cons (pe_call GLc hr rfl mLc kLc bLc .nil pass0 (pa_cons (pv 0) (pa_cons (pv 8) (pa_cons (pe_ix ix_tup (pv 9) pe_int (fun _ _ => rfl)) (pa_cons (pv 12) pa_nil))))) pa_nil)))))
  (pss_one (ps_if (pt_cmpR op_in_seq (pe_ix ix_tup (pv 9) pe_int (fun _ _ => rfl)) (pe_ix ix_list (pv 0) pe_int (fun _ _ => rfl)) (by rfl))
  (pss_one (ps_expr (pe_bm PySem.F.plainAttrs_list PySem.F.slot_list_append PySem.F.type_list_append mt_append (pv 6) (pa_cons (pe_call GLc hr rfl mLc kLc bLc .nil pass0 (pa_cons (pv 0) (pa_cons (pv 8) (pa_cons (pe_ix ix_tup (pe_ix ix_tup (pe_ix ix_list (pv 0) pe_int (fun _ _ => rfl)) pe_int (fun _ _ => rfl)) (pe_ix ix_tup (pv 9) pe_int (fun _ _ => rfl)) (fun _ _ => rfl)) (pa_cons (pe_tup pa_nil) pa_nil))))) pa_nil))))
  (pss_one (ps_expr (pe_bm PySem.F.plainAttrs_list PySem.F.slot_list_append PySem.F.type_list_append mt_append (pv 6) (pa_cons (pe_tup (pa_cons pe_str (pa_cons (pv 8) (pa_cons (pe_ix ix_tup (pv 9) pe_int (fun _ _ => rfl)) pa_nil)))) pa_nil))))))))))))))))))))
  (pss_one (ps_ret (pe_tupleOf (by rfl) m_tuple (pv 6)))))), ?_⟩
  obtain ⟨at', xts, rfl, ets, pts⟩ := tt.inv
  obtain ⟨apth, xpth, rfl, eph, pph⟩ := tp.inv
  have lph : xpth.length = p.length := by rw [(paired_get pph).1, List.length_map]
  have fines := Tp.Oks.fine _ hok
  refine ⟨sz, fun pn hpn => ?_⟩
  have o0 := Oth.new (S := []) (o := .lst []) hpn
  have nlp : l ≠ pn := ne_of_none hL hpn
  have nsp : sc ≠ pn := ne_of_none esc hpn
  have nap : ab ≠ pn := hab.ne hpn
  refine ⟨_, rfl, _, rfl, _, rfl, sz, fun e1 he1 => ⟨sz, fun e2 he2 => ⟨sz, fun nl hnl => ?_⟩⟩⟩
  have q1 := Oth.new (S := []) (o := .tup []) he1
  have q2 := Oth.new (S := []) (o := .tup []) he2
  have q3 := Oth.new (S := []) (o := .lst []) hnl
  have q13 := q1.trans (q2.trans q3)
  have o03 := o0.trans q13
  have hpn3 := q13.keep pn _ (by simp) upd_same
  have hL3 := o03.keep l _ (by simp) hL
  have nscnl : sc ≠ nl := ne_of_none ((o0.trans (q1.trans q2)).keep sc _ (by simp) esc) hnl
  have nlnl : l ≠ nl := ne_of_none ((o0.trans (q1.trans q2)).keep l _ (by simp) hL) hnl
  have npnl : pn ≠ nl := ne_of_none ((q1.trans q2).keep pn _ (by simp) upd_same) hnl
  have nabnl : ab ≠ nl := (hab.oth (o0.trans (q1.trans q2)) (by simp)).ne hnl
  have hz1 : L.length + 2 * Tp.wts ts ≤ 40000 := by
    have : 2 * Tp.wts ts ≤ (Tp.deps ts + 2) * Tp.wts ts := Nat.mul_le_mul_right _ (by omega)
    omega
  refine ⟨ts, c, [], [], [], _, _, _, sc, sa, sp, ss, l, nl, L, [], rfl, tt.oth o03, .mk ((q2.trans q3).tup _ _ upd_same) .nil, .mk (q3.tup _ _ upd_same) .nil, o03.keep sc _ (by simp) esc, o03.tup _ _ esa, o03.tup _ _ esp, o03.tup _ _ ess, hL3, upd_same, .nil, by simp, nscl, nscnl, nlnl, by omega, fines, by omega, by simp; omega, by simp, by simp, fun pe H4 rs nL4 hpe epe fre ite hl4 nl4 pn4 sh4 o4 => ?_⟩
  have lds := Tp.dis_len ts c [] [] 0
  have lwt := lawNamed_sum Tp.wt (Tp.dis c [] [] 0 ts) []
  have dwt := Tp.dis_wt ts c [] [] 0
  have iok : ∀ it ∈ lawNamed [] (Tp.dis c [] [] 0 ts), it.1.short ∧ it.2.1.node = true ∧ (∃ fr, it.2.1.Ok own (X.g.comps.length - 1) fr) ∧ it.2.1.dep ≤ Tp.deps ts ∧ it.2.1.wt ≤ Tp.wts ts ∧ 0 ≤ it.2.2 ∧ it.2.2 < 1000 := fun it hit => by
    obtain ⟨dd, hdd, e1, e2⟩ := lawNamed_tp _ _ it hit
    obtain ⟨a1, a2, a3, a4⟩ := Tp.dis_ok ts c [] [] 0 hok dd hdd
    have a5 := Tp.dis_idx ts c [] [] 0 csm.index dd hdd
    rw [e1, e2]
    exact ⟨sh4 it.1 (List.mem_map.mpr ⟨it, hit, rfl⟩), a1, a2, a3, a4, a5.1, a5.2⟩
  simp only [fill, lkAll] at q
  have lits : (lawNamed [] (Tp.dis c [] [] 0 ts)).length ≤ 600 := by rw [lawNamed_len]; omega
  have llk : (Tp.lks c ts).length ≤ Tp.wts ts := Tp.lks_len _ _
  generalize lawNamed [] (Tp.dis c [] [] 0 ts) = its at ite lwt iok q lits
  have lrs : rs.length = its.length := ite.len
  have npe : pn ≠ pe := ne_of_none hpn3 hpe
  have nle : l ≠ pe := ne_of_none hL3 hpe
  have frl := fre.ne hL3
  have frp := fre.ne hpn3
  have hpn4 := o4.keep pn _ (by simp [nlp.symm, npnl]) hpn3
  have o04 : Oth [l, nl] H H4 := (o03.mono (by simp)).trans o4
  have esc4 := o04.keep sc _ (by simp [nscl, nscnl]) esc
  have hab4 := hab.oth o04 (by simp [nabl, nabnl])
  obtain ⟨ia, hia⟩ : ∃ ia : List Int, ia = Tp.lks c ts := ⟨_, rfl⟩
  rw [← hia] at hl4 q llk
  refine ⟨pe, rfl, ⟨rs, SqL.of epe⟩, for_list (xs := rs)
    (fun j σ H5 => ∃ (x7 x8 x9 x10 x11 x12 x13 : Option V) (out : List V), σ = [some (.ref ab), some vo, some (.ref sc), some (.ref l), some (.ref at'), some (.ref apth), some (.ref pn), x7, x8, x9, x10, x11, x12, x13] ∧ Oth [l, pn] H4 H5 ∧ H5 pn = some (.lst out) ∧
      Paired (IsT H5) (((its.take j).map fun it => nodeOf X (fill X n) (lkAll n) o { c with index := it.2.2 } (p ++ [it.1]) it.2.1).map Nd.toT) out ∧
      H5 l = some (.lst (L ++ ia.map V.int ++ ((its.take j).flatMap fun it => nodeLk (lkAll n) { c with index := it.2.2 } it.2.1).map V.int)))
    ⟨none, none, none, none, none, none, none, [], rfl, Oth.refl, hpn4, .nil, by simpa using hl4⟩ (fun j σ H5 _ hW => ?_) (fun j x σ H5 hx hW => ?_) (fun σ H5 hW => ?_)⟩
  · obtain ⟨_, _, _, _, _, _, _, _, _, o5, _⟩ := hW
    exact SqL.of (o5.keep pe _ (by simp [nle.symm, npe.symm]) epe)
  · obtain ⟨x7, x8, x9, x10, x11, x12, x13, out, rfl, o5, hp5, po5, hl5⟩ := hW
    have ite5 : LItems H5 its rs := ite.oth o5 (fun v hv a ha => by
      simp only [List.mem_cons, List.not_mem_nil, or_false] at ha
      rcases ha with rfl | rfl
      · exact frl v hv
      · exact frp v hv)
    obtain ⟨it, gi, iad, nv, rv, rfl, ei, tn, trv⟩ := ite5.get hx
    have hj : j < its.length := by rw [← lrs]; exact (List.getElem?_eq_some_iff.mp hx).1
    obtain ⟨ish, inode, ⟨fr, iook⟩, idep, iwt, ii0, ii1⟩ := iok it (List.mem_of_getElem? gi)
    have wj := sumBy_take (fun it : Nm × Tp × Int => it.2.1.wt) gi
    have lout : out.length = j := by rw [(paired_get po5).1, List.length_map, List.length_map, List.length_take]; omega
    have o05 : Oth [l, nl, pn] H H5 := (o04.mono (by simp)).trans (o5.mono (by simp))
    have o05' : Oth [l, nl, pn] H4 H5 := o5.mono (by simp)
    -- how much has been looked at
    obtain ⟨L5, hL5⟩ : ∃ L5, L5 = L ++ ia.map V.int ++ ((its.take j).flatMap fun it => nodeLk (lkAll n) { c with index := it.2.2 } it.2.1).map V.int := ⟨_, rfl⟩
    have lL5 : L5.length + (Tp.deps ts + 1) * it.2.1.wt ≤ 40000 := by
      have h2 := sumBy_le (f := fun it : Nm × Tp × Int => (nodeLk (lkAll n) { c with index := it.2.2 } it.2.1).length) (g := fun it => it.2.1.wt) (m := Tp.deps ts + 1) (its.take j) fun it hit => (lk_len n c ts).2 (Tp.deps ts) it.2.1 _ (iok it (List.mem_of_mem_take hit)).2.2.2.1
      have h3 : (sumBy (fun it : Nm × Tp × Int => it.2.1.wt) (its.take j) + it.2.1.wt) * (Tp.deps ts + 1) ≤ Tp.wts ts * (Tp.deps ts + 1) := Nat.mul_le_mul_right _ (by omega)
      rw [Nat.add_mul] at h3
      rw [show Tp.deps ts + 2 = 1 + (Tp.deps ts + 1) by omega, Nat.add_mul, Nat.one_mul, Nat.mul_comm (Tp.deps ts + 1)] at hz
      rw [hL5, List.length_append, List.length_append, List.length_map, List.length_map, len_flat, Nat.mul_comm (Tp.deps ts + 1)]
      omega
    have lL6 : L5.length + it.2.1.wt ≤ 40000 := by
      have := Nat.le_mul_of_pos_left it.2.1.wt (show 0 < Tp.deps ts + 1 by omega)
      omega
    rw [← hL5] at hl5
    -- here
    refine ⟨_, rfl, _, rfl, iad, _, _, _, rfl, rfl, SqL.of ei, at0, sz, fun r1 hr1 => cat_t ((o05.trans (Oth.new hr1)).tup _ _ eph) upd_same (by simp; omega) fun r2 H6 o6 e6 => ?_⟩
    have o56 := (Oth.new (S := []) (o := .tup [nv]) hr1).trans o6
    have there : IsT H6 (pathT (p ++ [it.1])) (.ref r2) := by
      refine .mk e6 ?_
      rw [List.map_append]
      exact paired_app (paired_oth pph (o05.trans (o56.mono (by simp)))) (.cons (tn.oth o56) .nil)
    have ei6 := o56.keep iad _ (by simp) ei
    refine ⟨_, rfl, iad, _, _, _, rfl, rfl, SqL.of ei6, at1, ?_⟩
    -- the scope within
    have esc6 := o56.keep sc _ (by simp) (o5.keep sc _ (by simp [nscl, nsp]) esc4)
    refine ⟨_, rfl, sc, _, _, _, rfl, rfl, SqL.of esc6, at0, _, rfl, sc, _, _, _, rfl, rfl, SqL.of esc6, at1, _, rfl, sc, _, _, _, rfl, rfl, SqL.of esc6, at2, _, rfl, iad, _, _, _, rfl, rfl, SqL.of ei6, at2, sz, fun s2 hs2 => ?_⟩
    have o7 := Oth.new (S := []) (o := .lst [.ref sa, .ref sp, .ref ss, .int it.2.2]) hs2
    have o57 := o56.trans o7
    have hp7 := o57.keep pn _ (by simp) hp5
    have hl7 := o57.keep l _ (by simp) hl5
    have es2 : (upd H6 s2 (.lst [.ref sa, .ref sp, .ref ss, .int it.2.2])) s2 = some (.lst [.ref sa, .ref sp, .ref ss, .int it.2.2]) := upd_same
    have th7 := there.oth o7
    have tr7 := trv.oth o57
    have o07 := o05.trans (o57.mono (by simp))
    have esa7 := o07.tup _ _ esa
    have esp7 := o07.tup _ _ esp
    have ess7 := o07.tup _ _ ess
    have esc7 := o7.keep sc _ (by simp) esc6
    have to7 := to.oth o07
    have hab7 := (hab4.oth o5 (by simp [nabl, nap])).oth o57 (by simp)
    have n2l : s2 ≠ l := (ne_of_none (o56.keep l _ (by simp) hl5) hs2).symm
    have csm2 : Sc.Sm { c with index := it.2.2 } := csm.idx ⟨ii0, ii1⟩
    generalize (upd H6 s2 (.lst [.ref sa, .ref sp, .ref ss, .int it.2.2])) = H7 at o7 o57 hp7 hl7 es2 th7 tr7 o07 esa7 esp7 ess7 esc7 to7 hab7
    have o47 : Oth [l, pn] H4 H7 := o5.trans (o57.mono (by simp))
    -- how a turn ends
    have fin : ∀ (H9 : Hp) (v : V) (y8 y9 y10 y11 y12 y13 : Option V), Oth [l] H7 H9 → IsT H9 (nodeOf X (fill X n) (lkAll n) o { c with index := it.2.2 } (p ++ [it.1]) it.2.1).toT v → H9 l = some (.lst (L5 ++ (nodeLk (lkAll n) { c with index := it.2.2 } it.2.1).map V.int)) →
        H9 pn = some (.lst out) ∧ out.length < sizeLine ∧ ∃ (x7 x8 x9 x10 x11 x12 x13 : Option V) (out' : List V), ([some (.ref ab), some vo, some (.ref sc), some (.ref l), some (.ref at'), some (.ref apth), some (.ref pn), some (.ref iad), y8, y9, y10, y11, y12, y13] : L2.St) = [some (.ref ab), some vo, some (.ref sc), some (.ref l), some (.ref at'), some (.ref apth), some (.ref pn), x7, x8, x9, x10, x11, x12, x13] ∧ Oth [l, pn] H4 (upd H9 pn (.lst (out ++ [v]))) ∧ (upd H9 pn (.lst (out ++ [v]))) pn = some (.lst out') ∧
          Paired (IsT (upd H9 pn (.lst (out ++ [v])))) (((its.take (j + 1)).map fun it => nodeOf X (fill X n) (lkAll n) o { c with index := it.2.2 } (p ++ [it.1]) it.2.1).map Nd.toT) out' ∧
          (upd H9 pn (.lst (out ++ [v]))) l = some (.lst (L ++ ia.map V.int ++ ((its.take (j + 1)).flatMap fun it => nodeLk (lkAll n) { c with index := it.2.2 } it.2.1).map V.int)) := fun H9 v y8 y9 y10 y11 y12 y13 o9 tv hl9 => by
      have hp9 := o9.keep pn _ (by simp [nlp.symm]) hp7
      have op : Oth [pn] H9 (upd H9 pn (.lst (out ++ [v]))) := Oth.put (by simp) hp9
      refine ⟨hp9, Nat.lt_of_le_of_lt (by omega : out.length ≤ 50000) (by decide), _, _, _, _, _, _, _, out ++ [v], rfl, o47.trans ((o9.mono (by simp)).trans (op.mono (by simp))), upd_same, ?_, ?_⟩
      · rw [take_snoc gi, List.map_append, List.map_append]
        exact paired_app (paired_oth (paired_oth (paired_oth po5 o57) o9) op) (.cons (tv.oth op) .nil)
      · rw [op.keep l _ (by simp [nlp]) hl9, take_snoc gi, List.flatMap_append, List.map_append, ← List.append_assoc, ← hL5]
        simp
    have still : nodeLk (lkAll n) { c with index := it.2.2 } it.2.1 = [] → H7 l = some (.lst (L5 ++ (nodeLk (lkAll n) { c with index := it.2.2 } it.2.1).map V.int)) := fun z => by rw [z]; simpa using hl7
    have pok2 : PathOk (p ++ [it.1]) := pok.snoc ish (by omega)
    have kid : ∀ (d : Nat) (props : List Int) (vq : V) (H8 : Hp) (Qc : VK), own < d → d ≤ X.g.comps.length - 1 → Sm props → Oth [l] H7 H8 → IsT H8 (intsT props) vq → IsT H8 (pathT (p ++ [it.1])) (.ref r2) →
        nodeOf X (fill X n) (lkAll n) o { c with index := it.2.2 } (p ++ [it.1]) it.2.1 = child X n (p ++ [it.1]) d props →
        (∀ v H9, IsT H9 (nodeOf X (fill X n) (lkAll n) o { c with index := it.2.2 } (p ++ [it.1]) it.2.1).toT v → Oth [] H8 H9 → Qc v H9) →
        spLawChild n [.ref ab, .ref r2, .int (d : Int), vq] H8 Qc E' := fun d props vq H8 Qc h1 h2 hsm o8 tq tp8 hnd hq => by
      refine ⟨X, d, p ++ [it.1], props, _, _, ab, rfl, hab7.oth o8 (by simp [nabl]), gX, tp8, tq, h2, hsm, by unfold rank at hrk; omega, pok2, by simp; omega, fun v H9 tv o9 => hq v H9 (by rw [hnd]; exact tv) o9⟩
    obtain ⟨nm, tpl, idx⟩ := it
    dsimp only at *
    cases tpl with
    | when _ _ _ => cases inode
    | each _ _ => cases inode
    | text s =>
      obtain ⟨ra, _, v1, rfl, era6, p0, p1⟩ := IsT.inv2 tr7
      obtain rfl := p0.of_str
      refine ⟨_, rfl, ra, _, _, _, rfl, rfl, SqT.of era6, at0, rfl, _, rfl, iteTd rfl ?_⟩
      refine ⟨_, rfl, .inl ⟨rfl, _, SqL.of hp7⟩, _, rfl, _, rfl, ra, _, _, _, rfl, rfl, SqT.of era6, at1, sz, fun r9 hr9 => ?_⟩
      have o9 := Oth.new (S := [l]) (o := .tup [.str "text", .ref r2, v1]) hr9
      obtain ⟨f1, f2, f3⟩ := fin _ (.ref r9) _ _ _ _ _ _ o9 (.mk3 upd_same (.str _) (th7.oth o9) (p1.oth o9)) ((Oth.new (S := []) (o := .tup [.str "text", .ref r2, v1]) hr9).keep l _ (by simp) (still rfl))
      exact ⟨pn, _, _, rfl, rfl, f1, f2, f3⟩
    | «show» e =>
      obtain ⟨ra, _, v1, rfl, era6, p0, p1⟩ := IsT.inv2 tr7
      obtain rfl := p0.of_str
      refine ⟨_, rfl, ra, _, _, _, rfl, rfl, SqT.of era6, at0, rfl, _, rfl, iteFd (by decide) ?_⟩
      refine ⟨_, rfl, ra, _, _, _, rfl, rfl, SqT.of era6, at0, rfl, _, rfl, iteTd rfl ?_⟩
      simp only [Tp.wt] at lL6
      refine ⟨_, rfl, .inl ⟨rfl, _, SqL.of hp7⟩, _, rfl, _, rfl, ra, _, _, _, rfl, rfl, SqT.of era6, at1, _, rfl, _, rfl, e, { c with index := idx }, _, s2, sa, sp, ss, l, L5, rfl, p1, es2, esa7, esp7, ess7, n2l, hl7, by have := iook.1; omega, by omega, fun H8 l8 o8 => ⟨_, rfl, natAbs_log (E.sm csm2 e iook.2), sz, fun r9 hr9 => ?_⟩⟩
      have o9 := Oth.new (S := [l]) (o := .tup [.str "text", .ref r2, .str (numS (e.val { c with index := idx }))]) hr9
      obtain ⟨f1, f2, f3⟩ := fin _ (.ref r9) _ _ _ _ _ _ (o8.trans o9) (.mk3 upd_same (.str _) ((th7.oth o8).oth o9) (.str _)) ((Oth.new (S := []) (o := .tup [.str "text", .ref r2, .str (numS (e.val { c with index := idx }))]) hr9).keep l _ (by simp) l8)
      exact ⟨pn, _, _, rfl, rfl, f1, f2, f3⟩
    | input tag cell =>
      obtain ⟨ra, _, v1, v2, rfl, era6, p0, p1, p2⟩ := IsT.inv3 tr7
      obtain rfl := p0.of_str
      obtain rfl := p2.of_int
      refine ⟨_, rfl, ra, _, _, _, rfl, rfl, SqT.of era6, at0, rfl, _, rfl, iteFd (by decide) ?_⟩
      refine ⟨_, rfl, ra, _, _, _, rfl, rfl, SqT.of era6, at0, rfl, _, rfl, iteFd (by decide) ?_⟩
      refine ⟨_, rfl, ra, _, _, _, rfl, rfl, SqT.of era6, at0, rfl, _, rfl, iteTd rfl ?_⟩
      refine ⟨_, rfl, sc, _, _, _, rfl, rfl, SqL.of esc7, at0, sz, fun r8 hr8 => cat_t ((Oth.new (S := []) hr8).tup _ _ esa7) upd_same (by simp; have := csm.few; omega) fun r9 H9 o9 e9 => ?_⟩
      have o8 := (Oth.new (S := []) (o := .tup [.int 0]) hr8).trans o9
      have era9 := o8.tup _ _ era6
      refine ⟨_, rfl, ra, _, _, _, rfl, rfl, SqT.of era9, at2, _, rfl, sc, _, _, _, rfl, rfl, SqL.of (o8.keep sc _ (by simp) esc7), at0, sa, _, rfl, .inr (SqT.of (o8.tup _ _ esa7)), _, _, rfl, r9, _, _, _, rfl, rfl, SqT.of e9, at_cell, ?_⟩
      have hp9 := o8.keep pn _ (by simp) hp7
      refine ⟨_, rfl, .inl ⟨rfl, _, SqL.of hp9⟩, _, rfl, _, rfl, ra, _, _, _, rfl, rfl, SqT.of era9, at1, _, rfl, _, rfl, ra, _, _, _, rfl, rfl, SqT.of era9, at2, _, rfl, sz, fun r10 hr10 => ?_⟩
      have on := Oth.new (S := []) (o := .tup [.str "input", .ref r2, v1, vo, .int (cell : Int), .int (c.cells.getD cell 0)]) hr10
      have o8n := o8.trans on
      obtain ⟨f1, f2, f3⟩ := fin _ (.ref r10) _ _ _ _ _ _ (o8n.mono (by simp)) (.mk upd_same (.cons (.str _) (.cons (th7.oth o8n) (.cons (p1.oth o8n) (.cons (to7.oth o8n) (.cons (.int _) (.cons (.int _) .nil))))))) (o8n.keep l _ (by simp) (still rfl))
      exact ⟨pn, _, _, rfl, rfl, f1, f2, f3⟩
    | box tag key act cs =>
      obtain ⟨ra, _, v1, v2, v3, v4, rfl, era6, p0, p1, p2, p3, p4⟩ := IsT.inv5 tr7
      obtain rfl := p0.of_str
      refine ⟨_, rfl, ra, _, _, _, rfl, rfl, SqT.of era6, at0, rfl, _, rfl, iteFd (by decide) ?_⟩
      refine ⟨_, rfl, ra, _, _, _, rfl, rfl, SqT.of era6, at0, rfl, _, rfl, iteFd (by decide) ?_⟩
      refine ⟨_, rfl, ra, _, _, _, rfl, rfl, SqT.of era6, at0, rfl, _, rfl, iteFd (by decide) ?_⟩
      refine ⟨_, rfl, ra, _, _, _, rfl, rfl, SqT.of era6, at0, rfl, _, rfl, iteTd rfl ?_⟩
      simp only [Tp.wt] at lL6 iwt lL5
      simp only [Tp.dep] at idep
      have hsz : L5.length + (Tp.deps cs + 2) * Tp.wts cs ≤ 40000 := by
        have h1 : (Tp.deps cs + 2) * Tp.wts cs ≤ (Tp.deps ts + 1) * (ksz key + Tp.wts cs + 1) := Nat.mul_le_mul (by omega) (by omega)
        omega
      refine ⟨_, rfl, .inl ⟨rfl, _, SqL.of hp7⟩, _, rfl, _, rfl, ra, _, _, _, rfl, rfl, SqT.of era6, at1, _, rfl, _, rfl, ra, _, _, _, rfl, rfl, SqT.of era6, at3, _, rfl, _, rfl, _, rfl, _, rfl, _, rfl, ra, _, _, _, rfl, rfl, SqT.of era6, at4, _, rfl, ?_⟩
      refine ⟨X, own, fr, o, p ++ [nm], { c with index := idx }, cs, _, _, _, ab, s2, sa, sp, ss, l, L5, rfl, hab7, gX, to7, es2, esa7, esp7, ess7, hl7, p4, th7, csm2, hown, iook.2.2.2, by omega, by omega, by unfold rank at hrk ⊢; omega, hsz, nabl, n2l, pok2, by simp; omega, fun v H8 tv l8 o8 => ⟨sz, fun r9 hr9 => ?_⟩⟩
      have on := Oth.new (S := []) (o := .tup [.str "box", .ref r2, v1, vo, v3, v]) hr9
      have o8n := o8.trans (on.mono (S' := [l]) (by simp))
      obtain ⟨f1, f2, f3⟩ := fin _ (.ref r9) _ _ _ _ _ _ o8n (.mk upd_same (.cons (.str _) (.cons (th7.oth o8n) (.cons (p1.oth o8n) (.cons (to7.oth o8n) (.cons (p3.oth o8n) (.cons (tv.oth on) .nil))))))) (on.keep l _ (by simp) l8)
      exact ⟨pn, _, _, rfl, rfl, f1, f2, f3⟩
    | child d key props =>
      obtain ⟨ra, _, v1, v2, v3, rfl, era6, p0, p1, p2, p3⟩ := IsT.inv4 tr7
      obtain rfl := p0.of_str
      obtain rfl := p1.of_int
      refine ⟨_, rfl, ra, _, _, _, rfl, rfl, SqT.of era6, at0, rfl, _, rfl, iteFd (by decide) ?_⟩
      refine ⟨_, rfl, ra, _, _, _, rfl, rfl, SqT.of era6, at0, rfl, _, rfl, iteFd (by decide) ?_⟩
      refine ⟨_, rfl, ra, _, _, _, rfl, rfl, SqT.of era6, at0, rfl, _, rfl, iteFd (by decide) ?_⟩
      refine ⟨_, rfl, ra, _, _, _, rfl, rfl, SqT.of era6, at0, rfl, _, rfl, iteFd (by decide) ?_⟩
      refine ⟨_, rfl, ra, _, _, _, rfl, rfl, SqT.of era6, at0, rfl, _, rfl, iteTd rfl ?_⟩
      simp only [Tp.wt] at lL6
      obtain ⟨aq, xq, rfl, eq', pq⟩ := p3.inv
      have lxq : xq.length = props.length := by rw [(paired_get pq).1, List.length_map]
      have lpr := iook.2.2.2.1
      refine ⟨_, rfl, ra, _, _, _, rfl, rfl, SqT.of era6, at3, aq, rfl, ⟨xq, SqT.of eq'⟩, fun D hD => lc_tup (xs := xq)
        (fun j H8 => H8 D = some (.lst (((props.take j).map (E.val { c with index := idx })).map V.int)) ∧ H8 l = some (.lst (L5 ++ ((props.take j).flatMap (E.looks { c with index := idx })).map V.int)) ∧ Oth [l, D] H7 H8)
        ⟨by simp [upd_same], by rw [(Oth.new (S := []) hD).keep l _ (by simp) hl7]; simp, Oth.new hD⟩ (fun j H8 _ hW => SqT.of (hW.2.2.tup _ _ eq')) (fun j x H8 hx hW => ?_) (fun H8 hW => ?_)⟩
      · obtain ⟨hD8, hl8, o8⟩ := hW
        have hj2 : j < props.length := by rw [← lxq]; exact (List.getElem?_eq_some_iff.mp hx).1
        obtain ⟨e, ge⟩ : ∃ e, props[j]? = some e := ⟨props[j], List.getElem?_eq_getElem hj2⟩
        have te : IsT H7 e.toT x := (paired_get pq).2 j _ _ (by rw [List.getElem?_map, ge]; rfl) hx
        have nlD : l ≠ D := ne_of_none hl7 hD
        have n2D : s2 ≠ D := ne_of_none es2 hD
        have ok1 := iook.2.2.2.2 e (List.mem_of_getElem? ge)
        have sz1 : ((props.take j).flatMap (E.looks { c with index := idx })).length ≤ 20 := by
          have h1 := props_len { c with index := idx } (props.take j)
          have h2 := psz_le (props.take j) fun x hx => iook.2.2.2.2 x (List.mem_of_mem_take hx)
          rw [List.length_take] at h2
          omega
        have es1 := E.size_le e 1 ok1.1
        refine ⟨rfl, ⟨_, rfl, _, rfl, _, rfl, e, { c with index := idx }, _, s2, sa, sp, ss, l, _, rfl, te.oth o8, o8.keep s2 _ (by simp [n2l, n2D]) es2, o8.tup _ _ esa7, o8.tup _ _ esp7, o8.tup _ _ ess7, n2l, hl8, by omega, by rw [List.length_append, List.length_map]; omega, fun H9 l9 o9 => ?_⟩⟩
        have hD9 := o9.keep D _ (by simp [nlD.symm]) hD8
        have op : Oth [D] H9 (upd H9 D (.lst (((props.take j).map (E.val { c with index := idx })).map V.int ++ [.int (e.val { c with index := idx })]))) := Oth.put (by simp) hD9
        refine ⟨_, hD9, small1000 (by rw [List.length_map, List.length_map, List.length_take]; omega), ?_, ?_, o8.trans ((o9.mono (by simp)).trans (op.mono (by simp)))⟩
        · rw [upd_same, take_snoc ge, List.map_append, List.map_append]; rfl
        · rw [op.keep l _ (by simp [nlD]) l9, take_snoc ge, List.flatMap_append, List.map_append, ← List.append_assoc]
          simp
      · obtain ⟨hD8, hl8, o8⟩ := hW
        rw [lxq, List.take_length] at hD8 hl8
        refine .inl ⟨D, _, rfl, SqL.of hD8, fun t ht => ?_⟩
        have on := Oth.new (S := []) (o := .tup ((props.map (E.val { c with index := idx })).map V.int)) ht
        have o8' : Oth [l] H7 H8 := Oth.drop (p := D) (o8.mono (by simp)) hD
        have o8n := o8'.trans (on.mono (S' := [l]) (by simp))
        have hpn8 := o8n.keep pn _ (by simp [nlp.symm]) hp7
        refine ⟨_, rfl, .inl ⟨rfl, _, SqL.of hpn8⟩, _, rfl, _, rfl, _, rfl, ra, _, _, _, rfl, rfl, SqT.of (o8n.tup _ _ era6), at1, _, rfl, ?_⟩
        refine kid d (props.map (E.val { c with index := idx })) _ _ _ iook.1 iook.2.1 (fun x hx => ?_) o8n (.mkI upd_same) (th7.oth o8n) rfl fun v H9 tv o9 => ?_
        · obtain ⟨e, he, rfl⟩ := List.mem_map.mp hx
          exact E.sm csm2 e (iook.2.2.2.2 e he).2
        · obtain ⟨f1, f2, f3⟩ := fin H9 v _ _ _ _ _ _ (o8n.trans (o9.mono (by simp))) tv (o9.keep l _ (by simp) (on.keep l _ (by simp) hl8))
          exact ⟨pn, _, _, rfl, rfl, f1, f2, f3⟩
    | part kp =>
      obtain ⟨ra, _, v1, rfl, era6, p0, p1⟩ := IsT.inv2 tr7
      obtain rfl := p0.of_str
      obtain rfl := p1.of_int
      refine ⟨_, rfl, ra, _, _, _, rfl, rfl, SqT.of era6, at0, rfl, _, rfl, iteFd (by decide) ?_⟩
      refine ⟨_, rfl, ra, _, _, _, rfl, rfl, SqT.of era6, at0, rfl, _, rfl, iteFd (by decide) ?_⟩
      refine ⟨_, rfl, ra, _, _, _, rfl, rfl, SqT.of era6, at0, rfl, _, rfl, iteFd (by decide) ?_⟩
      refine ⟨_, rfl, ra, _, _, _, rfl, rfl, SqT.of era6, at0, rfl, _, rfl, iteFd (by decide) ?_⟩
      refine ⟨_, rfl, ra, _, _, _, rfl, rfl, SqT.of era6, at0, rfl, _, rfl, iteFd (by decide) ?_⟩
      obtain ⟨vgp, vgs, vgc, vgr, eab, tg, tgs, tgc, tgr⟩ := hab7.ex
      obtain ⟨apr, rfl, epr⟩ := tgr.nats
      obtain ⟨pga, pgc, pgs, pgq, pcs, rfl, epga, epgc, ppgc, epgs, epgq⟩ := Pq.inv tg
      refine ⟨_, rfl, ra, _, _, _, rfl, rfl, SqT.of era6, at1, _, rfl, ab, _, _, _, rfl, rfl, SqL.of eab, at3, apr, _, rfl, .inr (SqT.of epr), rfl, flatN _, _, rfl, ?_⟩
      by_cases hin : kp ∈ X.pres
      · refine iteTb (by show inV (V.int (kp : Int)) _ = true; rw [inVn, decide_eq_true hin]) ?_
        have hk := gX.pres kp hin
        have hp := gX.g.parts _ (List.getElem_mem hk)
        have e3 : X.g.parts.getD kp 0 = X.g.parts[kp] := by rw [List.getD_eq_getElem?_getD, List.getElem?_eq_getElem hk]; rfl
        have hat : atI (X.g.parts.map natV) (kp : Int) = some (.int ((X.g.parts.getD kp 0 : Nat) : Int)) := by
          refine atI_nat ?_
          rw [List.getElem?_map, List.getElem?_eq_getElem hk, e3]
          rfl
        refine ⟨_, rfl, .inl ⟨rfl, _, SqL.of hp7⟩, _, rfl, _, rfl, _, rfl, ab, _, _, _, rfl, rfl, SqL.of eab, at0, pga, _, _, _, rfl, rfl, SqT.of epga, at3, _, rfl, ra, _, _, _, rfl, rfl, SqT.of era6, at1, pgq, _, _, _, rfl, rfl, SqT.of epgq, hat, sz, fun r9 hr9 => ?_⟩
        have on := Oth.new (S := []) (o := .tup []) hr9
        refine kid (X.g.parts.getD kp 0) [] _ _ _ (by rw [e3, iook.1]; exact hp.1) (by rw [e3]; omega) (by intro x hx; cases hx) (on.mono (by simp)) (.mk upd_same .nil) (th7.oth on) (by simp only [nodeOf, if_pos hin]; rfl) fun v H9 tv o9 => ?_
        obtain ⟨f1, f2, f3⟩ := fin H9 v _ _ _ _ _ _ ((on.trans o9).mono (by simp)) tv (o9.keep l _ (by simp) (on.keep l _ (by simp) (still rfl)))
        exact ⟨pn, _, _, rfl, rfl, f1, f2, f3⟩
      · refine iteFb (by show inV (V.int (kp : Int)) _ = false; rw [inVn, decide_eq_false hin]) ?_
        refine ⟨_, rfl, .inl ⟨rfl, _, SqL.of hp7⟩, _, rfl, _, rfl, ra, _, _, _, rfl, rfl, SqT.of era6, at1, sz, fun r9 hr9 => ?_⟩
        have on := Oth.new (S := []) (o := .tup [.str "place", .ref r2, .int (kp : Int)]) hr9
        obtain ⟨f1, f2, f3⟩ := fin _ (.ref r9) _ _ _ _ _ _ (on.mono (by simp)) (by simp only [nodeOf, if_neg hin]; exact .mk3 upd_same (.str _) (th7.oth on) (.int _)) (on.keep l _ (by simp) (still rfl))
        exact ⟨pn, _, _, rfl, rfl, f1, f2, f3⟩
  · obtain ⟨x7, x8, x9, x10, x11, x12, x13, out, rfl, o5, hp5, po5, hl5⟩ := hW
    rw [lrs, List.take_length] at po5 hl5
    refine ⟨_, rfl, .inl ⟨pn, _, rfl, SqL.of hp5, fun t ht => ?_⟩⟩
    have on := Oth.new (S := []) (o := .tup out) ht
    refine q _ _ (.mk upd_same ?_) (by rw [on.keep l _ (by simp) hl5, List.map_append, ← List.append_assoc]) ?_
    · rw [Nd.toTs_map]
      exact paired_oth po5 on
    · have z : Oth [l, nl, pn] H (upd H5 t (.tup out)) := (o04.mono (by simp)).trans ((o5.mono (by simp)).trans (on.mono (by simp)))
      refine ⟨fun a oo na ha => ?_, z.tup⟩
      refine z.keep a oo ?_ ha
      intro hm
      simp only [List.mem_cons, List.not_mem_nil, or_false] at hm na
      rcases hm with e | e | e
      · exact na e
      · rw [← e] at hnl; rw [(o0.trans (q1.trans q2)).keep a oo (by simp) ha] at hnl; cases hnl
      · rw [e, hpn] at ha; cases ha
end
abbrev sLawChild : Stmt := topS 52
theorem scLawChild : FnScope ["about", "path", "number", "props", "component", "cells", "item", "looked", "nodes", "reads", "k"] ["about", "path", "number", "props"] (defScope sLawChild) := ⟨rfl, rfl, rfl, by decide +kernel, rfl, by decide +kernel, by decide +kernel⟩
section
variable {P : Program} {w : World} {K : PySem.W.Frag} {mg : Str → Option Value} {base : Heap}
theorem ok_lawchild {f fF : Addr} {fd dF : FuncData} {k n : Nat} (F : Fun K "_law_child" "_law_child" sLawChild f fd)
    (GLf : FnOk P w K mg base CX0 k fF dF ["about", "owner", "scope", "looked", "contents", "path"] (spLawFill n)) (bLf : Binds K dF ["about", "owner", "scope", "looked", "contents", "path"] []) (kLf : PySem.W.keepIn K (.ref fF) = true) (mLf : mg "_law_fill" = some (.ref fF))
    (m_len : mg "len" = none) (m_range : mg "range" = none) (m_tuple : mg "tuple" = none) :
    FnOk P w K mg base CX0 (k + 1) f fd ["about", "path", "number", "props"] (spLawChild n) := by
  refine F.ok scLawChild (fun vs H Q E h => ?_) (fun cdv A outer s H vs Q E' hr h => ?_)
  · obtain ⟨X, d, p, props, vp, vq, ab, rfl, _⟩ := h
    rfl
  obtain ⟨X, d, p, props, vp, vq, ab, rfl, hab, gX, tp, tq, hd, hsm, hrk, pok, hpl, q⟩ := h
  have nd := scLawChild.nd
  refine ⟨_, (pss_cons (ps_set (i := 4) nd rfl (.inl rfl) (pe_ix ix_tup (pe_ix ix_tup (pe_ix ix_list (pv 0) pe_int (fun _ _ => rfl)) pe_int (fun _ _ => rfl)) (pv 2) (fun _ _ => rfl)))
  (pss_cons (ps_set (i := 5) nd rfl (.inl rfl) (pe_ix ix_tup (pv 4) pe_int (fun _ _ => rfl)))
  (pss_cons (ps_for PassesOwn.never rfl (pi_tup (pe_ix ix_list (pv 0) pe_int (fun _ _ => rfl))) (pg_name (i := 6) nd rfl (.inl rfl))
  (pss_one (ps_if (pt_cmpR (op_eqT (Room.units65 hr)) (pe_ix ix_tup (pv 6) pe_int (fun _ _ => rfl)) (pv 1) (nomark _))
  (pss_one (ps_set (i := 5) nd rfl (.inl rfl) (pe_ix ix_tup (pv 6) pe_int (fun _ _ => rfl))))
  pss_nil)))
  (pss_cons (ps_set (i := 7) nd rfl (.inr rfl) (pe_lst pa_nil))
  (pss_cons (ps_set (i := 8) nd rfl (.inl rfl) (pe_call GLf hr rfl mLf kLf bLf .nil pass0 (pa_cons (pv 0) (pa_cons (pv 1) (pa_cons (pe_lst (pa_cons (pv 5) (pa_cons (pv 3) (pa_cons (pe_ix ix_list (pv 0) pe_int (fun _ _ => rfl)) (pa_cons pe_int pa_nil))))) (pa_cons (pv 7) (pa_cons (pe_ix ix_tup (pv 4) pe_int (fun _ _ => rfl)) (pa_cons (pv 1) pa_nil))))))))
  (pss_cons (ps_setLc (i := 9) (own := [("k", 10)]) (g := gName 10) rfl nd rfl rfl (sw_true rfl rfl rfl (by decide +kernel)) (pi_range1 (by rfl) m_range (pa_cons (pe_callB call_len_seq (by rfl) m_len PySem.boot_len (pa_cons (pe_ix ix_list (pv 0) pe_int (fun _ _ => rfl)) pa_nil)) pa_nil)) (blkOk_by (N := ["about", "path", "number", "props", "component", "cells", "item", "looked", "nodes", "reads", "k"]) (sc := defScope sLawChild) (by decide +kernel)) (fun _ _ _ _ _ => (pg_name (i := 10) nd rfl (.inl rfl))) (fun _ _ _ _ _ => pts_one (pt_cmpR (r := rIn K false) op_in_seq (pv 10) (pv 7) (by rfl))) (fun _ _ _ _ _ => (pv 10)))
  (pss_one (ps_ret (pe_tup (pa_cons pe_str (pa_cons (pv 1) (pa_cons (pv 2) (pa_cons (pv 3) (pa_cons (pe_tupleOf (by rfl) m_tuple (pv 9)) (pa_cons (pv 8) pa_nil))))))))))))))), ?_⟩
  obtain ⟨vgp, vgs, vgc, vgr, eab, tg, tgs, tgc, tgr⟩ := hab.ex
  obtain ⟨pga, pgc, pgs, pgq, pcs, rfl, epga, epgc, ppgc, epgs, epgq⟩ := Pq.inv tg
  obtain ⟨ast, rfl, east⟩ := tgs.ints
  obtain ⟨acs, xcs, rfl, eacs, pcs'⟩ := tgc.inv
  obtain ⟨aq, rfl, eaq⟩ := tq.ints
  have cok := gX.comp hd
  have lpc : pcs.length = X.g.comps.length := by rw [(paired_get ppgc).1, List.length_map]
  have hdl : d < X.g.comps.length := by have := gX.g.ne; omega
  have ec : X.comp d = X.g.comps[d] := by
    unfold Pc.comp
    rw [List.getD_eq_getElem?_getD, List.getElem?_eq_getElem hdl]; rfl
  have hpd : pcs[d]? = some (pcs[d]'(by omega)) := List.getElem?_eq_getElem _
  have tcq : IsT H (X.comp d).toT (pcs[d]'(by omega)) := (paired_get ppgc).2 d _ _ (by rw [List.getElem?_map, List.getElem?_eq_getElem hdl, ec]; rfl) hpd
  generalize pcs[d]'(by omega) = vcq at hpd tcq
  obtain ⟨ca, cx, vct, vca, rfl, eca, ecx, tct, tca⟩ := Cq.inv tcq
  refine ⟨_, rfl, ab, _, _, _, rfl, rfl, SqL.of eab, at0, pga, _, _, _, rfl, rfl, SqT.of epga, at1, _, rfl, pgc, _, _, _, rfl, rfl, SqT.of epgc, atI_nat hpd, ?_⟩
  refine ⟨_, rfl, ca, _, _, _, rfl, rfl, SqT.of eca, at1, ?_⟩
  have lxc : xcs.length = X.cs.length := by rw [(paired_get pcs').1, List.length_map]
  refine ⟨_, rfl, ab, _, _, _, rfl, rfl, SqL.of eab, at2, acs, rfl, ⟨xcs, SqT.of eacs⟩, for_tup (xs := xcs)
    (fun j σ H1 => ∃ (x6 x7 x8 x9 x10 : Option V) (vcell : V), σ = [some (.ref ab), some vp, some (.int (d : Int)), some (.ref aq), some (.ref ca), some vcell, x6, x7, x8, x9, x10] ∧ Oth [] H H1 ∧
      IsT H1 (intsT ((X.cs.take j).foldl (fun acc it => if it.1 = p then it.2 else acc) (intsOf (X.comp d).cells))) vcell)
    ⟨none, none, none, none, none, _, rfl, Oth.refl, .mkI (ns := intsOf (X.comp d).cells) (by rw [ints_map]; exact ecx)⟩ (fun j σ H1 _ hW => ?_) (fun j x σ H1 hx hW => ?_) (fun σ H1 hW => ?_)⟩
  · obtain ⟨_, _, _, _, _, _, _, o1, _⟩ := hW
    exact SqT.of (o1.tup _ _ eacs)
  · obtain ⟨x6, x7, x8, x9, x10, vcell, rfl, o1, tv⟩ := hW
    have hj : j < X.cs.length := by rw [← lxc]; exact (List.getElem?_eq_some_iff.mp hx).1
    obtain ⟨it, gi⟩ : ∃ it, X.cs[j]? = some it := ⟨X.cs[j], List.getElem?_eq_getElem hj⟩
    have ti : IsT H (.tup [pathT it.1, intsT it.2]) x := (paired_get pcs').2 j _ _ (by rw [List.getElem?_map, gi]; rfl) hx
    obtain ⟨ai, y1, y2, rfl, eai, i1, i2⟩ := IsT.inv2 ti
    have im := List.mem_of_getElem? gi
    refine ⟨_, rfl, ai, _, _, _, rfl, rfl, SqT.of (o1.tup _ _ eai), at0, _, rfl, pathT it.1, pathT p, i1.oth o1, tp.oth o1, (gX.paths it im).eqb, pok.eqb, _, rfl, ?_⟩
    by_cases he : it.1 = p
    · refine iteTb (by show decide _ = true; rw [decide_eq_true (path_nk.mpr he)]) ?_
      refine ⟨_, rfl, ai, _, _, _, rfl, rfl, SqT.of (o1.tup _ _ eai), at1, _, _, _, _, _, y2, rfl, o1, ?_⟩
      rw [take_snoc gi, List.foldl_append]
      simp only [List.foldl_cons, List.foldl_nil, if_pos he]
      exact i2.oth o1
    · refine iteFb (by show decide _ = false; rw [decide_eq_false (fun z => he (path_nk.mp z))]) ?_
      refine ⟨_, _, _, _, _, vcell, rfl, o1, ?_⟩
      rw [take_snoc gi, List.foldl_append]
      simp only [List.foldl_cons, List.foldl_nil, if_neg he]
      exact tv
  obtain ⟨x6, x7, x8, x9, x10, vcell, rfl, o1, tv⟩ := hW
  rw [lxc, List.take_length] at tv
  obtain ⟨acl, rfl, eacl⟩ := tv.ints
  have eacl : H1 acl = some (.tup ((X.cells p d).map V.int)) := eacl
  refine ⟨sz, fun l hl => ?_⟩
  have o2 := Oth.new (S := []) (o := .lst []) hl
  have o02 := o1.trans o2
  have hab2 := hab.oth o02 (by simp)
  have eab2 := o02.keep ab _ (by simp) eab
  have nabl : ab ≠ l := ne_of_none (o1.keep ab _ (by simp) eab) hl
  refine ⟨_, rfl, _, rfl, _, rfl, _, rfl, _, rfl, ab, _, _, _, rfl, rfl, SqL.of eab2, at1, sz, fun s hs => ⟨_, rfl, _, rfl, ca, _, _, _, rfl, rfl, SqT.of ((o02.trans (Oth.new hs)).tup _ _ eca), at2, _, rfl, ?_⟩⟩
  have o3 := Oth.new (S := []) (o := .lst [.ref acl, .ref aq, .ref ast, .int 0]) hs
  have o03 := o02.trans o3
  have nsl : s ≠ l := (ne_of_none (upd_same : (upd H1 l (.lst [])) l = _) hs).symm
  have wts : Tp.wts (X.comp d).cs ≤ 600 := by
    have := Tp.wts_le _ cok.oks cok.echs
    have := cok.cnts
    omega
  have dps := cok.deps
  refine ⟨X, d, true, p, p, X.sc p d props, (X.comp d).cs, _, _, _, ab, s, acl, aq, ast, l, [], rfl, hab2.oth o3 (by simp), gX, tp.oth o03, upd_same, o3.tup _ _ (o2.tup _ _ eacl), o03.tup _ _ eaq, o03.tup _ _ east, o3.keep l _ (by simp) upd_same, tct.oth o03, tp.oth o03, gX.sc hd p hsm, hd, cok.oks, wts, dps, by unfold rank; omega, by
    have : (Tp.deps (X.comp d).cs + 2) * Tp.wts (X.comp d).cs ≤ 5 * 600 := Nat.mul_le_mul (by omega) wts
    simp; omega, nabl, nsl, pok, hpl, fun v H4 tv4 l4 o4 => ?_⟩
  rw [List.nil_append] at l4
  have o04 : Oth [l] H H4 := (o03.mono (by simp)).trans o4
  have eab4 := o04.keep ab _ (by simp [nabl]) eab
  have east4 := o04.tup _ _ east
  obtain ⟨lk, hlk⟩ : ∃ lk, lk = lkAll n (X.sc p d props) (X.comp d).cs := ⟨_, rfl⟩
  rw [← hlk] at l4
  have lst2 : X.st.length ≤ 2 := gX.sl
  refine ⟨_, rfl, ab, _, _, _, rfl, rfl, SqL.of eab4, at1, ast, _, rfl, .inr (SqT.of east4), _, rfl, by omega, by rw [List.length_map]; omega, fun D hD => lc_range (lo := 0) (n := (((X.st.map V.int).length : Nat) : Int).toNat)
    (fun j H5 => H5 D = some (.lst ((((List.range j).filter fun k : Nat => decide ((k : Int) ∈ lk)).map Int.ofNat).map V.int)) ∧ Oth [D] H4 H5)
    ⟨by simp [upd_same], Oth.new hD⟩ (fun j H5 hj hW => ?_) (fun H5 hW => ?_)⟩
  · obtain ⟨hD5, o5⟩ := hW
    have nlD : l ≠ D := ne_of_none l4 hD
    rw [show (0 : Int) + (j : Int) = (j : Int) from Int.zero_add _]
    have hl5 := o5.keep l _ (by simp [nlD]) l4
    refine ⟨rfl, _, rfl, _, rfl, l, _, rfl, .inl (SqL.of hl5), rfl, flatI _, ?_⟩
    have hr1 : ∀ q : Nat → Bool, (List.range (j + 1)).filter q = (List.range j).filter q ++ (if q j = true then [j] else []) := fun q => by
      rw [List.range_succ, List.filter_append]
      congr 1
      by_cases hq : q j = true <;> simp [hq]
    have llen : (((List.range j).filter fun k : Nat => decide ((k : Int) ∈ lk)).map Int.ofNat).length ≤ j := by
      rw [List.length_map]
      exact Nat.le_trans (List.length_filter_le _ _) (by rw [List.length_range]; omega)
    have hj2 : j ≤ 2 := by rw [List.length_map] at hj; omega
    by_cases hin : (j : Int) ∈ lk
    · refine ⟨_, rfl, iteTb (by show inV (V.int (j : Int)) _ = true; rw [inVi, decide_eq_true hin]) ⟨_, rfl, _, hD5, small1000 (by rw [List.length_map]; omega), ?_, o5.trans (Oth.put (by simp) hD5)⟩⟩
      rw [upd_same, hr1, if_pos (decide_eq_true hin), List.map_append, List.map_append]
      rfl
    · refine ⟨_, rfl, iteFb (by show inV (V.int (j : Int)) _ = false; rw [inVi, decide_eq_false hin]) ⟨?_, o5⟩⟩
      rw [hD5, hr1, if_neg (by simp [hin]), List.append_nil]
  · obtain ⟨hD5, o5⟩ := hW
    have o5' := Oth.drop o5 hD
    have hln : (((X.st.map V.int).length : Nat) : Int).toNat = X.st.length := by rw [List.length_map]; omega
    rw [hln] at hD5
    refine ⟨_, rfl, _, rfl, _, rfl, _, rfl, .inl ⟨D, _, rfl, SqL.of hD5, fun t ht => ⟨_, rfl, sz, fun r hr' => ?_⟩⟩⟩
    have on := Oth.new (S := []) (o := .tup ((X.reads lk).map V.int)) ht
    have on2 := Oth.new (S := []) (o := .tup [.str "child", vp, .int (d : Int), .ref aq, .ref t, v]) hr'
    have o48 := o5'.trans (on.trans on2)
    have o08 : Oth [l] H _ := o04.trans (o48.mono (by simp))
    refine q _ _ ?_ (Oth.drop (p := l) (o08.mono (by simp)) ?_)
    · unfold child childOf
      rw [← hlk]
      exact .mk upd_same (.cons (.str _) (.cons (tp.oth o08) (.cons (.int _) (.cons (tq.oth o08) (.cons (.mkI (on2.tup _ _ upd_same)) (.cons ((tv4.oth o5').oth (on.trans on2)) .nil))))))
    · cases e : H l with
      | none => rfl
      | some x => rw [o1.keep l _ (by simp) e] at hl; cases hl
end
abbrev sMakePage : Stmt := topS 22
abbrev sMakeComp : Stmt := topS 24
abbrev sMakeNodes : Stmt := topS 25
abbrev sMakeNode : Stmt := topS 26
abbrev sMakeChild : Stmt := topS 27
abbrev sMakePart : Stmt := topS 28
theorem scMakePage : FnScope ["program", "store", "cells", "present", "told", "path", "values"] ["program", "store", "cells", "present"] (defScope sMakePage) := ⟨rfl, rfl, rfl, by decide +kernel, rfl, by decide +kernel, by decide +kernel⟩
theorem scMakeComp : FnScope ["given", "component", "path", "props", "program", "store", "told", "_", "initial", "contents", "scope", "looked", "nodes"] ["given", "component", "path", "props"] (defScope sMakeComp) := ⟨rfl, rfl, rfl, by decide +kernel, rfl, by decide +kernel, by decide +kernel⟩
theorem scMakeNodes : FnScope ["given", "contents", "owner", "around", "scope", "looked", "row", "name", "template", "index"] ["given", "contents", "owner", "around", "scope", "looked"] (defScope sMakeNodes) := ⟨rfl, rfl, rfl, by decide +kernel, rfl, by decide +kernel, by decide +kernel⟩
theorem scMakeNode : FnScope ["given", "template", "owner", "path", "scope", "looked", "characters", "expression", "tag", "action", "contents", "component", "handed", "props", "part", "cell", "prop"] ["given", "template", "owner", "path", "scope", "looked"] (defScope sMakeNode) := ⟨rfl, rfl, rfl, by decide +kernel, rfl, by decide +kernel, by decide +kernel⟩
theorem scMakeChild : FnScope ["given", "component", "path", "props", "reads", "nodes"] ["given", "component", "path", "props"] (defScope sMakeChild) := ⟨rfl, rfl, rfl, by decide +kernel, rfl, by decide +kernel, by decide +kernel⟩
theorem scMakePart : FnScope ["given", "part", "path", "program", "_", "present"] ["given", "part", "path"] (defScope sMakePart) := ⟨rfl, rfl, rfl, by decide +kernel, rfl, by decide +kernel, by decide +kernel⟩
section
variable {P : Program} {w : World} {K : PySem.W.Frag} {mg : Str → Option Value} {base : Heap}
theorem ok_mkchild {f fC : Addr} {fd dC : FuncData} {k n : Nat} (F : Fun K "_make_child" "_make_child" sMakeChild f fd)
    (GMc : FnOk P w K mg base CX0 k fC dC ["given", "component", "path", "props"] (spMkComp P w n)) (bMc : Binds K dC ["given", "component", "path", "props"] []) (kMc : PySem.W.keepIn K (.ref fC) = true) (mMc : mg "_make_component" = some (.ref fC)) :
    FnOk P w K mg base CX0 (k + 1) f fd ["given", "component", "path", "props"] (spMkChild P w n) := by
  refine F.ok scMakeChild (fun vs H Q E h => ?_) (fun cdv A outer s H vs Q E' hr h => ?_)
  · obtain ⟨X, d, p, props, vp, vq, ga, td, rfl, _⟩ := h
    rfl
  obtain ⟨X, d, p, props, vp, vq, ga, td, rfl, hg, gX, tp, tq, hd, hsm, hrk, pok, hpl, q⟩ := h
  have nd := scMakeChild.nd
  refine ⟨_, (pss_cons (ps_asg (pe_call GMc hr rfl mMc kMc bMc .nil pass0 (pa_cons (pv 0) (pa_cons (pv 1) (pa_cons (pv 2) (pa_cons (pv 3) pa_nil))))) (pg_tup rfl (pgs_cons (pg_name (i := 4) nd rfl (.inl rfl)) (pgs_cons (pg_name (i := 5) nd rfl (.inl rfl)) pgs_nil))))
  (pss_one (ps_ret (pe_tup (pa_cons pe_str (pa_cons (pv 2) (pa_cons (pv 1) (pa_cons (pv 3) (pa_cons (pv 4) (pa_cons (pv 5) pa_nil)))))))))), ?_⟩
  refine ⟨_, rfl, _, rfl, _, rfl, _, rfl, X, d, p, props, _, _, ga, td, rfl, hg, gX, tp, tq, hd, hsm, hrk, pok, hpl, fun v H1 tv o1 => ?_⟩
  obtain ⟨a, v1, v2, rfl, ea, t1, t2⟩ := IsT.inv2 tv
  refine ⟨a, _, rfl, SqT.of ea, rfl, _, _, rfl, _, _, rfl, rfl, ?_⟩
  refine ⟨_, rfl, _, rfl, _, rfl, _, rfl, _, rfl, sz, fun r hr' => ?_⟩
  have o2 := Oth.new (S := []) (o := .tup [.str "child", vp, .int (d : Int), vq, v1, v2]) hr'
  have o12 := o1.trans o2
  refine q _ _ ?_ o12
  unfold child childOf
  exact .mk upd_same (.cons (.str _) (.cons (tp.oth o12) (.cons (.int _) (.cons (tq.oth o12) (.cons (t1.oth o2) (.cons (t2.oth o2) .nil))))))
theorem ok_mkpart {f fC : Addr} {fd dC : FuncData} {k n : Nat} (F : Fun K "_make_part" "_make_part" sMakePart f fd)
    (GMh : FnOk P w K mg base CX0 k fC dC ["given", "component", "path", "props"] (spMkChild P w n)) (bMh : Binds K dC ["given", "component", "path", "props"] []) (kMh : PySem.W.keepIn K (.ref fC) = true) (mMh : mg "_make_child" = some (.ref fC)) :
    FnOk P w K mg base CX0 (k + 1) f fd ["given", "part", "path"] (spMkPart P w n) := by
  refine F.ok scMakePart (fun vs H Q E h => ?_) (fun cdv A outer s H vs Q E' hr h => ?_)
  · obtain ⟨X, kp, p, o, c, vp, ga, td, rfl, _⟩ := h
    rfl
  obtain ⟨X, kp, p, o, c, vp, ga, td, rfl, hg, gX, tp, hrk, pok, hpl, q⟩ := h
  have nd := scMakePart.nd
  refine ⟨_, (pss_cons (ps_asg (pv 0) (pg_tup rfl (pgs_cons (pg_name (i := 3) nd rfl (.inl rfl)) (pgs_cons (pg_name (i := 4) nd rfl (.inl rfl)) (pgs_cons (pg_name (i := 4) nd rfl (.inl rfl)) (pgs_cons (pg_name (i := 5) nd rfl (.inl rfl)) pgs_nil))))))
  (pss_cons (ps_if (pt_cmpR op_notIn_seq (pv 1) (pv 5) (by rfl))
  (pss_one (ps_ret (pe_tup (pa_cons pe_str (pa_cons (pv 2) (pa_cons (pv 1) pa_nil))))))
  pss_nil)
  (pss_one (ps_ret (pe_call GMh hr rfl mMh kMh bMh .nil pass0 (pa_cons (pv 0) (pa_cons (pe_ix ix_tup (pe_ix ix_tup (pv 3) pe_int (fun _ _ => rfl)) (pv 1) (fun _ _ => rfl)) (pa_cons (pv 2) (pa_cons (pe_tup pa_nil) pa_nil))))))))), ?_⟩
  obtain ⟨vgp, vgs, vgr, kvs, ega, tg, tgs, dn, told, tgr⟩ := hg.ex
  obtain ⟨apr, rfl, epr⟩ := tgr.nats
  obtain ⟨pga, pgc, pgs, pgq, pcs, rfl, epga, epgc, ppgc, epgs, epgq⟩ := Pq.inv tg
  refine ⟨_, rfl, ga, _, rfl, SqT.of ega, rfl, _, _, rfl, _, _, rfl, _, _, rfl, _, _, rfl, rfl, ?_⟩
  refine ⟨_, rfl, _, rfl, apr, _, rfl, .inr (SqT.of epr), rfl, flatN _, _, rfl, ?_⟩
  by_cases hin : kp ∈ X.pres
  · refine iteFb (by show (!inV (V.int (kp : Int)) (X.pres.map natV)) = false; rw [inVn, decide_eq_true hin]; rfl) ?_
    have hk := gX.pres kp hin
    have hp := gX.g.parts _ (List.getElem_mem hk)
    have e3 : X.g.parts.getD kp 0 = X.g.parts[kp] := by rw [List.getD_eq_getElem?_getD, List.getElem?_eq_getElem hk]; rfl
    have hat : atI (X.g.parts.map natV) (kp : Int) = some (.int ((X.g.parts.getD kp 0 : Nat) : Int)) := by
      refine atI_nat ?_
      rw [List.getElem?_map, List.getElem?_eq_getElem hk, e3]
      rfl
    refine ⟨_, rfl, _, rfl, pga, _, _, _, rfl, rfl, SqT.of epga, at3, _, rfl, pgq, _, _, _, rfl, rfl, SqT.of epgq, hat, _, rfl, sz, fun r hr' => ?_⟩
    have on := Oth.new (S := []) (o := .tup []) hr'
    refine ⟨X, X.g.parts.getD kp 0, p, [], _, _, ga, td, rfl, hg.oth on (by simp), gX, tp.oth on, .mk upd_same .nil, by rw [e3]; omega, (by intro x hx; cases hx), by rw [e3]; omega, pok, hpl, fun v H1 tv o1 => ?_⟩
    refine q _ _ ?_ (on.trans o1)
    simp only [nodeOf, if_pos hin]
    exact tv
  · refine iteTb (by show (!inV (V.int (kp : Int)) (X.pres.map natV)) = true; rw [inVn, decide_eq_false hin]; rfl) ?_
    refine ⟨_, rfl, _, rfl, sz, fun r hr' => ?_⟩
    have on := Oth.new (S := []) (o := .tup [.str "place", vp, .int (kp : Int)]) hr'
    refine q _ _ ?_ on
    simp only [nodeOf, if_neg hin]
    exact .mk3 upd_same (.str _) (tp.oth on) (.int _)
theorem ok_mkcomp {f fN : Addr} {fd dN : FuncData} {k n : Nat} (F : Fun K "_make_component" "_make_component" sMakeComp f fd)
    (GMn : FnOk P w K mg base CX0 k fN dN ["given", "contents", "owner", "around", "scope", "looked"] (spMkNodes P w n)) (bMn : Binds K dN ["given", "contents", "owner", "around", "scope", "looked"] []) (kMn : PySem.W.keepIn K (.ref fN) = true) (mMn : mg "_make_nodes" = some (.ref fN))
    (m_tuple : mg "tuple" = none) (m_sorted : mg "sorted" = none) (m_set : mg "set" = none) :
    FnOk P w K mg base CX0 (k + 1) f fd ["given", "component", "path", "props"] (spMkComp P w n) := by
  refine F.ok scMakeComp (fun vs H Q E h => ?_) (fun cdv A outer s H vs Q E' hr h => ?_)
  · obtain ⟨X, d, p, props, vp, vq, ga, td, rfl, _⟩ := h
    rfl
  obtain ⟨X, d, p, props, vp, vq, ga, td, rfl, hg, gX, tp, tq, hd, hsm, hrk, pok, hpl, q⟩ := h
  have nd := scMakeComp.nd
  have hu20 : (A.deeper (envOfC "_make_component" (defScope sMakeComp) s.heap.objs.size f cdv)).units + 20 < cLine := by have := hr.un; omega
  refine ⟨_, (pss_cons (ps_asg (pv 0) (pg_tup rfl (pgs_cons (pg_name (i := 4) nd rfl (.inl rfl)) (pgs_cons (pg_name (i := 5) nd rfl (.inl rfl)) (pgs_cons (pg_name (i := 6) nd rfl (.inl rfl)) (pgs_cons (pg_name (i := 7) nd rfl (.inl rfl)) pgs_nil))))))
  (pss_cons (ps_asg (pe_ix ix_tup (pe_ix ix_tup (pv 4) pe_int (fun _ _ => rfl)) (pv 1) (fun _ _ => rfl)) (pg_tup rfl (pgs_cons (pg_name (i := 7) nd rfl (.inl rfl)) (pgs_cons (pg_name (i := 8) nd rfl (.inl rfl)) (pgs_cons (pg_name (i := 9) nd rfl (.inl rfl)) (pgs_cons (pg_name (i := 7) nd rfl (.inl rfl)) pgs_nil))))))
  (pss_cons (ps_set (i := 10) nd rfl (.inl rfl) (pe_tup (pa_cons pe_str (pa_cons (pe_getN hu20 (pv 6) (pv 2) (pv 8) ⟨rfl, rfl, rfl, rfl⟩) (pa_cons (pv 3) (pa_cons (pv 5) (pa_cons pe_int pa_nil)))))))
  (pss_cons (ps_set (i := 11) nd rfl (.inl rfl) (pe_lst pa_nil))
  (pss_cons (ps_set (i := 12) nd rfl (.inl rfl) (pe_call GMn hr rfl mMn kMn bMn .nil pass0 (pa_cons (pv 0) (pa_cons (pv 9) (pa_cons (pv 2) (pa_cons (pv 2) (pa_cons (pv 10) (pa_cons (pv 11) pa_nil))))))))
  (pss_one (ps_ret (pe_tup (pa_cons (pe_tupleOf (by rfl) m_tuple (pe_callB (cr_sortedSet rfl) (by rfl) m_sorted bo_sorted (pa_cons (pe_callTy (cr_setI rfl) (by rfl) m_set bo_set (pa_cons (pv 11) pa_nil)) pa_nil))) (pa_cons (pv 12) pa_nil)))))))))), ?_⟩
  obtain ⟨vgp, vgs, vgr, kvs, ega, tg, tgs, dn, told, tgr⟩ := hg.ex
  obtain ⟨apr, rfl, epr⟩ := tgr.nats
  obtain ⟨pga, pgc, pgs, pgq, pcs, rfl, epga, epgc, ppgc, epgs, epgq⟩ := Pq.inv tg
  obtain ⟨ast, rfl, east⟩ := tgs.ints
  obtain ⟨aq, rfl, eaq⟩ := tq.ints
  have cok := gX.comp hd
  have lpc : pcs.length = X.g.comps.length := by rw [(paired_get ppgc).1, List.length_map]
  have hdl : d < X.g.comps.length := by have := gX.g.ne; omega
  have ec : X.comp d = X.g.comps[d] := by
    unfold Pc.comp
    rw [List.getD_eq_getElem?_getD, List.getElem?_eq_getElem hdl]; rfl
  have hpd : pcs[d]? = some (pcs[d]'(by omega)) := List.getElem?_eq_getElem _
  have tcq : IsT H (X.comp d).toT (pcs[d]'(by omega)) := (paired_get ppgc).2 d _ _ (by rw [List.getElem?_map, List.getElem?_eq_getElem hdl, ec]; rfl) hpd
  generalize pcs[d]'(by omega) = vcq at hpd tcq
  obtain ⟨ca, cx, vct, vca, rfl, eca, ecx, tct, tca⟩ := Cq.inv tcq
  obtain ⟨bp, rfl, kp⟩ := path_key tp
  refine ⟨_, rfl, ga, _, rfl, SqT.of ega, rfl, _, _, rfl, _, _, rfl, _, _, rfl, _, _, rfl, rfl, ?_⟩
  refine ⟨_, rfl, pga, _, _, _, rfl, rfl, SqT.of epga, at1, _, rfl, pgc, _, _, _, rfl, rfl, SqT.of epgc, atI_nat hpd, ca, _, rfl, SqT.of eca, rfl, _, _, rfl, _, _, rfl, _, _, rfl, _, _, rfl, rfl, ?_⟩
  have tcell : IsT H (intsT (X.cells p d)) ((valV kvs (pathT p).nk).getD (.ref cx)) := by
    unfold Pc.cells
    rw [lastOf_fold]
    have z := told p
    revert z
    cases lastOf X.cs p <;> cases valV kvs (pathT p).nk <;> intro z
    · exact .mkI (ns := intsOf (X.comp d).cells) (by rw [ints_map]; exact ecx)
    · exact z.elim
    · exact z.elim
    · exact z
  refine ⟨_, rfl, td, rfl, ⟨kvs, dn⟩, _, rfl, _, rfl, bp, _, kvs, rfl, kp, dn, _, rfl, _, rfl, sz, fun sc hsc => ?_⟩
  generalize (valV kvs (pathT p).nk).getD (.ref cx) = vcell at tcell
  obtain ⟨acl, rfl, eacl⟩ := tcell.ints
  have o1 := Oth.new (S := []) (o := .tup [.str "scope", .ref acl, .ref aq, .ref ast, .int 0]) hsc
  refine ⟨sz, fun l hl => ?_⟩
  have o2 := Oth.new (S := []) (o := .lst []) hl
  have o12 := o1.trans o2
  have tsc : IsT _ (X.sc p d props).toT (.ref sc) := Sc.mk' (c := X.sc p d props) (o2.tup _ _ upd_same) (o12.tup _ _ eacl) (o12.tup _ _ eaq) (o12.tup _ _ east)
  have wts : Tp.wts (X.comp d).cs ≤ 600 := by
    have := Tp.wts_le _ cok.oks cok.echs
    have := cok.cnts
    omega
  have dps := cok.deps
  have hsz : (Tp.deps (X.comp d).cs + 2) * Tp.wts (X.comp d).cs ≤ 5 * 600 := Nat.mul_le_mul (by omega) wts
  refine ⟨_, rfl, _, rfl, _, rfl, _, rfl, _, rfl, _, rfl, X, d, true, p, p, X.sc p d props, (X.comp d).cs, _, _, _, _, ga, td, l, [], rfl, hg.oth o12 (by simp), gX, tp.oth o12, tp.oth o12, tsc, upd_same, tct.oth o12, gX.sc hd p hsm, hd, cok.oks, cok.ndp, wts, dps, by unfold rank; omega, by simp; omega, pok, hpl, fun v H3 tv l3 o3 => ?_⟩
  rw [List.nil_append] at l3
  have lkl := (lk_len n (X.sc p d props) (X.comp d).cs).1
  have lin : InR X.st.length (lkAll n (X.sc p d props) (X.comp d).cs) := lkAll_in n (X.sc p d props) (X.comp d).cs
  have heq : compT X n p d props = .tup [intsT (X.reads (lkAll n (X.sc p d props) (X.comp d).cs)), .tup (Nd.toTs (fill X n p (X.sc p d props) (X.comp d).cs p))] := rfl
  rw [heq] at q
  generalize lkAll n (X.sc p d props) (X.comp d).cs = lk at l3 lkl lin q
  refine ⟨_, rfl, l, lk, rfl, l3, by omega, fun ps cn hps hcn => ?_⟩
  have hc2 := hcn ((List.range X.st.length).map Int.ofNat) fun j hj => by
    obtain ⟨i, rfl, hi⟩ := lin j hj
    exact List.mem_map.mpr ⟨i, List.mem_range.mpr hi, rfl⟩
  rw [List.length_map, List.length_range] at hc2
  have o4 := Oth.new (S := []) (o := SetO w ps (fun j => decide (j ∈ lk)) cn) hps
  refine ⟨ps, _, cn, rfl, upd_same, by have := gX.sl; omega, fun ns lo asc mem lns hlo => ?_⟩
  have ens := reads_eq lin asc mem
  have o5 := Oth.new (S := []) (o := .lst (ns.map V.int)) hlo
  refine .inl ⟨lo, _, rfl, SqL.of upd_same, fun t ht => ⟨_, rfl, sz, fun r hr' => ?_⟩⟩
  have o6 := Oth.new (S := []) (o := .tup (ns.map V.int)) ht
  have o7 := Oth.new (S := []) (o := .tup [.ref t, v]) hr'
  have o47 := o4.trans (o5.trans (o6.trans o7))
  have o37 := o3.trans (o47.mono (by simp))
  refine q _ _ ?_ ?_
  · rw [← ens]
    exact .mk upd_same (.cons (.mkI (o7.tup _ _ upd_same)) (.cons (tv.oth o47) .nil))
  · refine Oth.drop (p := l) ((o12.mono (by simp)).trans o37) ?_
    cases e : H l with
    | none => rfl
    | some x => rw [o1.keep l _ (by simp) e] at hl; cases hl
end
section
variable {P : Program} {w : World} {K : PySem.W.Frag} {mg : Str → Option Value} {base : Heap}
theorem ok_mknode {f fN fH fP fV : Addr} {fd dN dH dP dV : FuncData} {k n : Nat} (F : Fun K "_make_node" "_make_node" sMakeNode f fd)
    (GMn : FnOk P w K mg base CX0 k fN dN ["given", "contents", "owner", "around", "scope", "looked"] (spMkNodes P w n)) (bMn : Binds K dN ["given", "contents", "owner", "around", "scope", "looked"] []) (kMn : PySem.W.keepIn K (.ref fN) = true) (mMn : mg "_make_nodes" = some (.ref fN))
    (GMh : FnOk P w K mg base CX0 k fH dH ["given", "component", "path", "props"] (spMkChild P w n)) (bMh : Binds K dH ["given", "component", "path", "props"] []) (kMh : PySem.W.keepIn K (.ref fH) = true) (mMh : mg "_make_child" = some (.ref fH))
    (GMp : FnOk P w K mg base CX0 k fP dP ["given", "part", "path"] (spMkPart P w n)) (bMp : Binds K dP ["given", "part", "path"] []) (kMp : PySem.W.keepIn K (.ref fP) = true) (mMp : mg "_make_part" = some (.ref fP))
    (GV : FnOk P w K mg base CX0 k fV dV ["expression", "scope", "looked"] (spValue 4)) (bV : Binds K dV ["expression", "scope", "looked"] []) (kV : PySem.W.keepIn K (.ref fV) = true) (mV : mg "value" = some (.ref fV))
    (m_tuple : mg "tuple" = none) (m_str : mg "str" = none) :
    FnOk P w K mg base CX0 (k + 1) f fd ["given", "template", "owner", "path", "scope", "looked"] (spMkNode P w n) := by
  refine F.ok scMakeNode (fun vs H Q E h => ?_) (fun cdv A outer s H vs Q E' hr h => ?_)
  · obtain ⟨X, own, D, free, o, p, c, t, vt, vo, vp, vc, ga, td, l, L, rfl, _⟩ := h
    rfl
  obtain ⟨X, own, D, free, o, p, c, t, vt, vo, vp, vc, ga, td, l, L, rfl, hg, gX, to, tp, tc, hL, tt, csm, hown, inode, iok, ndp, hwt, hdp, hD, hrk, hz, pok, hpl, q⟩ := h
  have nd := scMakeNode.nd
  refine ⟨_, (pss_one (ps_match (pv 1) (pcs_cons nd (pp_seq rfl (pps_cons' pp_str (pps_cons' (pp_name 6) pps_nil'))) (pss_one (ps_ret (pe_tup (pa_cons pe_str (pa_cons (pv 3) (pa_cons (pv 6) pa_nil))))))
  (pcs_cons nd (pp_seq rfl (pps_cons' pp_str (pps_cons' (pp_name 7) pps_nil'))) (pss_one (ps_ret (pe_tup (pa_cons pe_str (pa_cons (pv 3) (pa_cons (pe_callTy call_str_int (by rfl) m_str bo_str (pa_cons (pe_call GV hr rfl mV kV bV .nil pass0 (pa_cons (pv 7) (pa_cons (pv 4) (pa_cons (pv 5) pa_nil)))) pa_nil)) pa_nil))))))
  (pcs_cons nd (pp_seq rfl (pps_cons' pp_str (pps_cons' (pp_name 8) (pps_cons' pp_any (pps_cons' (pp_name 9) (pps_cons' (pp_name 10) pps_nil')))))) (pss_one (ps_ret (pe_tup (pa_cons pe_str (pa_cons (pv 3) (pa_cons (pv 8) (pa_cons (pv 2) (pa_cons (pv 9) (pa_cons (pe_call GMn hr rfl mMn kMn bMn .nil pass0 (pa_cons (pv 0) (pa_cons (pv 10) (pa_cons (pv 2) (pa_cons (pv 3) (pa_cons (pv 4) (pa_cons (pv 5) pa_nil))))))) pa_nil)))))))))
  (pcs_cons nd (pp_seq rfl (pps_cons' pp_str (pps_cons' (pp_name 11) (pps_cons' pp_any (pps_cons' (pp_name 12) pps_nil'))))) (pss_cons (ps_set (i := 13) nd rfl (.inl rfl) (pe_tupleOf (by rfl) m_tuple (pe_lc (own := [("prop", 16)]) (g := gName 16) (tt := tYes) rfl nd (pi_tup (pv 12)) (blkOk_by (N := ["given", "template", "owner", "path", "scope", "looked", "characters", "expression", "tag", "action", "contents", "component", "handed", "props", "part", "cell", "prop"]) (sc := defScope sMakeNode) (by decide +kernel)) (fun _ _ _ _ _ => (pg_name (i := 16) nd rfl (.inl rfl))) (fun _ _ _ _ _ => pts_nil) (fun _ _ _ _ _ => (pe_call GV hr rfl mV kV bV .nil pass0 (pa_cons (pv 16) (pa_cons (pv 4) (pa_cons (pv 5) pa_nil))))))))
  (pss_one (ps_ret (pe_call GMh hr rfl mMh kMh bMh .nil pass0 (pa_cons (pv 0) (pa_cons (pv 11) (pa_cons (pv 3) (pa_cons (pv 13) pa_nil))))))))
  (pcs_cons nd (pp_seq rfl (pps_cons' pp_str (pps_cons' (pp_name 14) pps_nil'))) (pss_one (ps_ret (pe_call GMp hr rfl mMp kMp bMp .nil pass0 (pa_cons (pv 0) (pa_cons (pv 14) (pa_cons (pv 3) pa_nil))))))
  (pcs_cons nd (pp_seq rfl (pps_cons' pp_str (pps_cons' (pp_name 8) (pps_cons' (pp_name 15) pps_nil')))) (pss_one (ps_ret (pe_tup (pa_cons pe_str (pa_cons (pv 3) (pa_cons (pv 8) (pa_cons (pv 2) (pa_cons (pv 15) (pa_cons (pe_call GV hr rfl mV kV bV .nil pass0 (pa_cons (pe_tup (pa_cons pe_str (pa_cons (pv 15) pa_nil))) (pa_cons (pv 4) (pa_cons (pv 5) pa_nil)))) pa_nil)))))))))
  pcs_nil)))))))), ?_⟩
  have hz2 : L.length + t.wt ≤ 40000 := by
    have := Nat.le_mul_of_pos_left t.wt (show 0 < D + 1 by omega)
    omega
  cases t with
  | when _ _ _ => cases inode
  | each _ _ => cases inode
  | text s =>
    obtain ⟨ra, _, v1, rfl, era, p0, p1⟩ := IsT.inv2 tt
    obtain rfl := p0.of_str
    refine ⟨_, rfl, case_hit (SqT.of era) rfl ⟨_, _, rfl, ?_⟩⟩
    refine ⟨_, rfl, _, rfl, sz, fun r hr' => ?_⟩
    have on := Oth.new (S := []) (o := .tup [.str "text", vp, v1]) hr'
    exact q _ _ (.mk3 upd_same (.str _) (tp.oth on) (p1.oth on)) (by simpa [nodeLk] using on.keep l _ (by simp) hL) (on.mono (by simp))
  | «show» e =>
    obtain ⟨ra, _, v1, rfl, era, p0, p1⟩ := IsT.inv2 tt
    obtain rfl := p0.of_str
    simp only [Tp.wt] at hz2
    refine ⟨_, rfl, case_skip (SqT.of era) (by decide) (case_hit (SqT.of era) rfl ⟨_, _, rfl, ?_⟩)⟩
    refine ⟨_, rfl, _, rfl, _, rfl, _, rfl, e, c, _, _, l, L, rfl, p1, tc, hL, by have := iok.1; omega, by omega, fun H1 l1 o1 => ⟨_, rfl, natAbs_log (E.sm csm e iok.2), sz, fun r hr' => ?_⟩⟩
    have on := Oth.new (S := []) (o := .tup [.str "text", vp, .str (numS (e.val c))]) hr'
    exact q _ _ (.mk3 upd_same (.str _) ((tp.oth o1).oth on) (.str _)) (on.keep l _ (by simp) l1) (o1.trans (on.mono (by simp)))
  | box tag key act cs =>
    obtain ⟨ra, _, v1, v2, v3, v4, rfl, era, p0, p1, p2, p3, p4⟩ := IsT.inv5 tt
    obtain rfl := p0.of_str
    simp only [Tp.wt] at hz2 hwt hz
    simp only [Tp.dep] at hdp
    refine ⟨_, rfl, case_skip (SqT.of era) (by decide) (case_skip (SqT.of era) (by decide) (case_hit (SqT.of era) rfl ⟨_, _, rfl, _, _, rfl, _, _, rfl, _, _, rfl, ?_⟩))⟩
    have hsz : L.length + (Tp.deps cs + 2) * Tp.wts cs ≤ 40000 := by
      have h1 : (Tp.deps cs + 2) * Tp.wts cs ≤ (D + 1) * (ksz key + Tp.wts cs + 1) := Nat.mul_le_mul (by omega) (by omega)
      omega
    refine ⟨_, rfl, _, rfl, _, rfl, _, rfl, _, rfl, _, rfl, _, rfl, _, rfl, _, rfl, _, rfl, X, own, free, o, p, c, cs, _, _, _, _, ga, td, l, L, rfl, hg, gX, to, tp, tc, hL, p4, csm, hown, iok.2.2.2, ndp, by omega, by omega, by unfold rank; omega, hsz, pok, hpl, fun v H1 tv l1 o1 => ⟨sz, fun r hr' => ?_⟩⟩
    have on := Oth.new (S := []) (o := .tup [.str "box", vp, v1, vo, v3, v]) hr'
    have o12 := o1.trans (on.mono (S' := [l]) (by simp))
    refine q _ _ (.mk upd_same (.cons (.str _) (.cons (tp.oth o12) (.cons (p1.oth o12) (.cons (to.oth o12) (.cons (p3.oth o12) (.cons (tv.oth on) .nil))))))) (on.keep l _ (by simp) l1) o12
  | child d key props =>
    obtain ⟨ra, _, v1, v2, v3, rfl, era, p0, p1, p2, p3⟩ := IsT.inv4 tt
    obtain rfl := p0.of_str
    obtain rfl := p1.of_int
    simp only [Tp.wt] at hz2
    obtain ⟨aq, xq, rfl, eq', pq⟩ := p3.inv
    have lxq : xq.length = props.length := by rw [(paired_get pq).1, List.length_map]
    have lpr := iok.2.2.2.1
    refine ⟨_, rfl, case_skip (SqT.of era) (by decide) (case_skip (SqT.of era) (by decide) (case_skip (SqT.of era) (by decide) (case_hit (SqT.of era) rfl ⟨_, _, rfl, _, _, rfl, _, _, rfl, ?_⟩)))⟩
    refine ⟨_, rfl, aq, rfl, ⟨xq, SqT.of eq'⟩, fun D1 hD1 => lc_tup (xs := xq)
      (fun j H8 => H8 D1 = some (.lst (((props.take j).map (E.val c)).map V.int)) ∧ H8 l = some (.lst (L ++ ((props.take j).flatMap (E.looks c)).map V.int)) ∧ Oth [l, D1] H H8)
      ⟨by simp [upd_same], by rw [(Oth.new (S := []) hD1).keep l _ (by simp) hL]; simp, Oth.new hD1⟩ (fun j H8 _ hW => SqT.of (hW.2.2.tup _ _ eq')) (fun j x H8 hx hW => ?_) (fun H8 hW => ?_)⟩
    · obtain ⟨hD8, hl8, o8⟩ := hW
      have hj2 : j < props.length := by rw [← lxq]; exact (List.getElem?_eq_some_iff.mp hx).1
      obtain ⟨e, ge⟩ : ∃ e, props[j]? = some e := ⟨props[j], List.getElem?_eq_getElem hj2⟩
      have te : IsT H e.toT x := (paired_get pq).2 j _ _ (by rw [List.getElem?_map, ge]; rfl) hx
      have nlD : l ≠ D1 := ne_of_none hL hD1
      have ok1 := iok.2.2.2.2 e (List.mem_of_getElem? ge)
      have sz1 : ((props.take j).flatMap (E.looks c)).length ≤ 20 := by
        have h1 := props_len c (props.take j)
        have h2 := psz_le (props.take j) fun x hx => iok.2.2.2.2 x (List.mem_of_mem_take hx)
        rw [List.length_take] at h2
        omega
      have es1 := E.size_le e 1 ok1.1
      refine ⟨rfl, ⟨_, rfl, _, rfl, _, rfl, e, c, _, _, l, _, rfl, te.oth o8, tc.oth o8, hl8, by omega, by rw [List.length_append, List.length_map]; omega, fun H9 l9 o9 => ?_⟩⟩
      have hD9 := o9.keep D1 _ (by simp [nlD.symm]) hD8
      have op : Oth [D1] H9 (upd H9 D1 (.lst (((props.take j).map (E.val c)).map V.int ++ [.int (e.val c)]))) := Oth.put (by simp) hD9
      refine ⟨_, hD9, small1000 (by rw [List.length_map, List.length_map, List.length_take]; omega), ?_, ?_, o8.trans ((o9.mono (by simp)).trans (op.mono (by simp)))⟩
      · rw [upd_same, take_snoc ge, List.map_append, List.map_append]; rfl
      · rw [op.keep l _ (by simp [nlD]) l9, take_snoc ge, List.flatMap_append, List.map_append, ← List.append_assoc]
        simp
    · obtain ⟨hD8, hl8, o8⟩ := hW
      rw [lxq, List.take_length] at hD8 hl8
      refine .inl ⟨D1, _, rfl, SqL.of hD8, fun t ht => ?_⟩
      have on := Oth.new (S := []) (o := .tup ((props.map (E.val c)).map V.int)) ht
      have o8' : Oth [l] H H8 := Oth.drop (p := D1) (o8.mono (by simp)) hD1
      have o8n := o8'.trans (on.mono (S' := [l]) (by simp))
      have tdl := hg.nl hL
      refine ⟨_, rfl, _, rfl, _, rfl, _, rfl, X, d, p, props.map (E.val c), _, _, ga, td, rfl, hg.oth o8n (by simp [tdl]), gX, tp.oth o8n, .mkI upd_same, iok.2.1, fun x hx => ?_, by have := iok.1; have := iok.2.1; omega, pok, hpl, fun v H9 tv o9 => ?_⟩
      · obtain ⟨e, he, rfl⟩ := List.mem_map.mp hx
        exact E.sm csm e (iok.2.2.2.2 e he).2
      · exact q _ _ tv (o9.keep l _ (by simp) (on.keep l _ (by simp) hl8)) (o8n.trans (o9.mono (by simp)))
  | part kp =>
    obtain ⟨ra, _, v1, rfl, era, p0, p1⟩ := IsT.inv2 tt
    obtain rfl := p0.of_str
    obtain rfl := p1.of_int
    refine ⟨_, rfl, case_skip (SqT.of era) (by decide) (case_skip (SqT.of era) (by decide) (case_skip (SqT.of era) (by decide) (case_skip (SqT.of era) (by decide) (case_hit (SqT.of era) rfl ⟨_, _, rfl, ?_⟩))))⟩
    refine ⟨_, rfl, _, rfl, _, rfl, X, kp, p, o, c, _, ga, td, rfl, hg, gX, tp, by have := iok.1; omega, pok, hpl, fun v H1 tv o1 => ?_⟩
    exact q _ _ tv (by simpa [nodeLk] using o1.keep l _ (by simp) hL) (o1.mono (by simp))
  | input tag cell =>
    obtain ⟨ra, _, v1, v2, rfl, era, p0, p1, p2⟩ := IsT.inv3 tt
    obtain rfl := p0.of_str
    obtain rfl := p2.of_int
    refine ⟨_, rfl, case_skip (SqT.of era) (by decide) (case_skip (SqT.of era) (by decide) (case_skip (SqT.of era) (by decide) (case_skip (SqT.of era) (by decide) (case_skip (SqT.of era) (by decide) (case_hit (SqT.of era) rfl ⟨_, _, rfl, _, _, rfl, ?_⟩)))))⟩
    refine ⟨_, rfl, _, rfl, _, rfl, _, rfl, _, rfl, sz, fun r1 hr1 => ?_⟩
    have o1 := Oth.new (S := []) (o := .tup [.str "cell", .int (cell : Int)]) hr1
    refine ⟨_, rfl, _, rfl, .cell cell, c, _, _, l, L, rfl, .mk2 upd_same (.str _) (.int _), tc.oth o1, o1.keep l _ (by simp) hL, by simp [E.depth], by simp only [E.size]; omega, fun H2 l2 o2 => ⟨sz, fun r hr' => ?_⟩⟩
    have on := Oth.new (S := []) (o := .tup [.str "input", vp, v1, vo, .int (cell : Int), .int ((E.cell cell).val c)]) hr'
    have o12 : Oth [l] H _ := (o1.mono (by simp)).trans (o2.trans (on.mono (by simp)))
    refine q _ _ (.mk upd_same (.cons (.str _) (.cons (tp.oth o12) (.cons (p1.oth o12) (.cons (to.oth o12) (.cons (.int _) (.cons (.int _) .nil))))))) (by simpa [nodeLk, E.looks] using on.keep l _ (by simp) l2) o12
theorem ok_mknodes {f fD fO : Addr} {fd dD dO : FuncData} {k n : Nat} (F : Fun K "_make_nodes" "_make_nodes" sMakeNodes f fd)
    (GDo : FnOk P w K mg base CX0 k fD dD ["contents", "scope", "looked"] (spLayOut 4)) (bDo : Binds K dD ["contents", "scope", "looked"] []) (kDo : PySem.W.keepIn K (.ref fD) = true) (mDo : mg "lay_out" = some (.ref fD))
    (GMo : FnOk P w K mg base CX0 k fO dO ["given", "template", "owner", "path", "scope", "looked"] (spMkNode P w n)) (bMo : Binds K dO ["given", "template", "owner", "path", "scope", "looked"] []) (kMo : PySem.W.keepIn K (.ref fO) = true) (mMo : mg "_make_node" = some (.ref fO))
    (m_tuple : mg "tuple" = none) :
    FnOk P w K mg base CX0 (k + 1) f fd ["given", "contents", "owner", "around", "scope", "looked"] (spMkNodes P w (n + 1)) := by
  refine F.ok scMakeNodes (fun vs H Q E h => ?_) (fun cdv A outer s H vs Q E' hr h => ?_)
  · obtain ⟨X, own, free, o, p, c, ts, vt, vo, vp, vc, ga, td, l, L, rfl, _⟩ := h
    rfl
  obtain ⟨X, own, free, o, p, c, ts, vt, vo, vp, vc, ga, td, l, L, rfl, hg, gX, to, tp, tc, hL, tt, csm, hown, hok, ndp, hwt, hdp, hrk, hz, pok, hpl, q⟩ := h
  have nd := scMakeNodes.nd
  refine ⟨_, (pss_cons (ps_set (i := 6) nd rfl (.inl rfl) (pe_call GDo hr rfl mDo kDo bDo .nil pass0 (pa_cons (pv 1) (pa_cons (pv 4) (pa_cons (pv 5) pa_nil)))))
  (pss_one (ps_ret (pe_tupleOf (by rfl) m_tuple (pe_lc (own := [("name", 7), ("template", 8), ("index", 9)]) (g := gTup K 3 (gCons (gName 7) (gCons (gName 8) (gCons (gName 9) gNil)))) (tt := tYes) rfl nd (pi_tup (pv 6)) (blkOk_by (N := ["given", "contents", "owner", "around", "scope", "looked", "row", "name", "template", "index"]) (sc := defScope sMakeNodes) (by decide +kernel)) (fun _ _ _ _ _ => (pg_tup rfl (pgs_cons (pg_name (i := 7) nd rfl (.inl rfl)) (pgs_cons (pg_name (i := 8) nd rfl (.inl rfl)) (pgs_cons (pg_name (i := 9) nd rfl (.inl rfl)) pgs_nil))))) (fun _ _ _ _ _ => pts_nil) (fun _ _ _ _ _ => (pe_call GMo hr rfl mMo kMo bMo .nil pass0 (pa_cons (pv 0) (pa_cons (pv 8) (pa_cons (pv 2) (pa_cons (pe_op (r := rCatA K) op_catA (pv 3) (pe_tup (pa_cons (pv 7) pa_nil))) (pa_cons (pe_op (r := rCatA K) op_catA (pe_slice (r := rSlA K) sl_tupA (pv 4) po_none (po_some pe_int)) (pe_tup (pa_cons (pv 9) pa_nil))) (pa_cons (pv 5) pa_nil))))))))))))), ?_⟩
  have hz1 : L.length + 2 * Tp.wts ts ≤ 40000 := by
    have : 2 * Tp.wts ts ≤ (Tp.deps ts + 2) * Tp.wts ts := Nat.mul_le_mul_right _ (by omega)
    omega
  refine ⟨_, rfl, _, rfl, _, rfl, ts, c, _, _, l, L, rfl, tt, tc, hL, by omega, Tp.Oks.fine _ hok, by omega, fun v H1 tv l1 o1 => ?_⟩
  rw [(names_eq c hok ndp).1] at tv
  have tdl := hg.nl hL
  have lds := Tp.dis_len ts c [] [] 0
  have iok : ∀ it ∈ lawNamed [] (Tp.dis c [] [] 0 ts), it.1.short ∧ it.2.1.node = true ∧ (∃ fr, it.2.1.Ok own (X.g.comps.length - 1) fr) ∧ it.2.1.dep ≤ Tp.deps ts ∧ it.2.1.wt ≤ Tp.wts ts ∧ 0 ≤ it.2.2 ∧ it.2.2 < 1000 ∧ it.2.1.pts.Nodup := fun it hit => by
    obtain ⟨dd, hdd, e1, e2⟩ := lawNamed_tp _ _ it hit
    obtain ⟨a1, a2, a3, a4⟩ := Tp.dis_ok ts c [] [] 0 hok dd hdd
    have a5 := Tp.dis_idx ts c [] [] 0 csm.index dd hdd
    have a6 := (Tp.dis_pts ts c [] [] 0 dd hdd).nodup ndp
    have sh := named_short _ [] (fun d hd' => (Tp.dis_short ts c [] [] 0 (by simp; omega) (by simp; omega) d hd').1) (fun d hd' => (Tp.dis_short ts c [] [] 0 (by simp; omega) (by simp; omega) d hd').2) it hit
    rw [e1, e2]
    exact ⟨sh, a1, a2, a3, a4, a5.1, a5.2, a6⟩
  have lwt := lawNamed_sum Tp.wt (Tp.dis c [] [] 0 ts) []
  have dwt := Tp.dis_wt ts c [] [] 0
  have lits : (lawNamed [] (Tp.dis c [] [] 0 ts)).length ≤ 600 := by rw [lawNamed_len]; omega
  have llk : (Tp.lks c ts).length ≤ Tp.wts ts := Tp.lks_len _ _
  simp only [fill, lkAll] at q
  generalize lawNamed [] (Tp.dis c [] [] 0 ts) = its at tv lwt iok q lits
  generalize Tp.lks c ts = ia at l1 q llk
  obtain ⟨av, xs, rfl, ev, pv⟩ := tv.inv
  have lxs : xs.length = its.length := by rw [(paired_get pv).1, List.length_map]
  refine ⟨_, rfl, av, rfl, ⟨xs, SqT.of ev⟩, fun D hD => lc_tup (xs := xs)
    (fun j H2 => ∃ out : List V, H2 D = some (.lst out) ∧ Paired (IsT H2) (((its.take j).map fun it => nodeOf X (fill X n) (lkAll n) o { c with index := it.2.2 } (p ++ [it.1]) it.2.1).map Nd.toT) out ∧
      H2 l = some (.lst (L ++ ia.map V.int ++ ((its.take j).flatMap fun it => nodeLk (lkAll n) { c with index := it.2.2 } it.2.1).map V.int)) ∧ Oth [l, D] H1 H2)
    ⟨[], upd_same, .nil, by rw [(Oth.new (S := []) hD).keep l _ (by simp) l1]; simp, Oth.new hD⟩ (fun j H2 _ hW => ?_) (fun j x H2 hx hW => ?_) (fun H2 hW => ?_)⟩
  · obtain ⟨_, _, _, _, o2⟩ := hW
    exact SqT.of (o2.tup _ _ ev)
  · obtain ⟨out, hD2, po2, hl2, o2⟩ := hW
    have hj : j < its.length := by rw [← lxs]; exact (List.getElem?_eq_some_iff.mp hx).1
    obtain ⟨it, gi⟩ : ∃ it, its[j]? = some it := ⟨its[j], List.getElem?_eq_getElem hj⟩
    have ti : IsT H1 (itemT it) x := (paired_get pv).2 j _ _ (by rw [List.getElem?_map, gi]; rfl) hx
    obtain ⟨ax, v1, v2, v3, rfl, ex, i1, i2, i3⟩ := IsT.inv3 ti
    obtain rfl := i3.of_int
    obtain ⟨ish, inode, ⟨fr, iook⟩, idep, iwt, ii0, ii1, indp⟩ := iok it (List.mem_of_getElem? gi)
    have wj := sumBy_take (fun it : Nm × Tp × Int => it.2.1.wt) gi
    have lout : out.length = j := by rw [(paired_get po2).1, List.length_map, List.length_map, List.length_take]; omega
    have nlD : l ≠ D := ne_of_none l1 hD
    have tdD : td ≠ D := (hg.oth o1 (by simp [tdl])).nn hD
    obtain ⟨L5, hL5⟩ : ∃ L5, L5 = L ++ ia.map V.int ++ ((its.take j).flatMap fun it => nodeLk (lkAll n) { c with index := it.2.2 } it.2.1).map V.int := ⟨_, rfl⟩
    have lL5 : L5.length + (Tp.deps ts + 1) * it.2.1.wt ≤ 40000 := by
      have h2 := sumBy_le (f := fun it : Nm × Tp × Int => (nodeLk (lkAll n) { c with index := it.2.2 } it.2.1).length) (g := fun it => it.2.1.wt) (m := Tp.deps ts + 1) (its.take j) fun it hit => (lk_len n c ts).2 (Tp.deps ts) it.2.1 _ (iok it (List.mem_of_mem_take hit)).2.2.2.1
      have h3 : (sumBy (fun it : Nm × Tp × Int => it.2.1.wt) (its.take j) + it.2.1.wt) * (Tp.deps ts + 1) ≤ Tp.wts ts * (Tp.deps ts + 1) := Nat.mul_le_mul_right _ (by omega)
      rw [Nat.add_mul] at h3
      rw [show Tp.deps ts + 2 = 1 + (Tp.deps ts + 1) by omega, Nat.add_mul, Nat.one_mul, Nat.mul_comm (Tp.deps ts + 1)] at hz
      rw [hL5, List.length_append, List.length_append, List.length_map, List.length_map, len_flat, Nat.mul_comm (Tp.deps ts + 1)]
      omega
    rw [← hL5] at hl2
    have o02 : Oth [l, D] H H2 := (o1.mono (by simp)).trans o2
    obtain ⟨apth, xpth, rfl, eph, pph⟩ := tp.inv
    have lph : xpth.length = p.length := by rw [(paired_get pph).1, List.length_map]
    obtain ⟨sc, sa, sp, ss, rfl, esc, esa, esp, ess⟩ := Sc.parts tc
    refine ⟨ax, _, rfl, SqT.of (o2.tup _ _ ex), rfl, _, _, rfl, _, _, rfl, _, _, rfl, rfl, rfl, ?_⟩
    refine ⟨_, rfl, _, rfl, _, rfl, _, rfl, _, rfl, sz, fun r1 hr1 => cat_t ((o02.trans (Oth.new hr1)).tup _ _ eph) upd_same (by simp; omega) fun r2 H3 o3 e3 => ?_⟩
    have o23 := (Oth.new (S := []) (o := .tup [v1]) hr1).trans o3
    have o03 := o02.trans (o23.mono (by simp))
    refine ⟨_, rfl, 4, rfl, sl_take (n := 4) (o03.tup _ _ esc) fun c6 H6 o6 e6 => ?_⟩
    refine ⟨_, rfl, sz, fun r7 hr7 => cat_t ((Oth.new (S := []) (o := .tup [.int it.2.2]) hr7).tup _ _ e6) upd_same (by simp) fun c8 H8 o8 e8 => ?_⟩
    have o38 := o6.trans ((Oth.new (S := []) (o := .tup [.int it.2.2]) hr7).trans o8)
    have o28 := o23.trans o38
    have o08 := o02.trans (o28.mono (by simp))
    have tin : IsT H8 (Sc.toT { c with index := it.2.2 }) (.ref c8) := Sc.mk' (c := { c with index := it.2.2 }) e8 (o08.tup _ _ esa) (o08.tup _ _ esp) (o08.tup _ _ ess)
    have there : IsT H8 (pathT (p ++ [it.1])) (.ref r2) := by
      refine .mk (o38.tup _ _ e3) ?_
      rw [List.map_append]
      exact paired_app (paired_oth pph o08) (.cons (i1.oth (o2.trans (o28.mono (by simp)))) .nil)
    have hl8 := o28.keep l _ (by simp) hl2
    have hD8 := o28.keep D _ (by simp) hD2
    refine ⟨_, rfl, X, own, Tp.deps ts, fr, o, p ++ [it.1], { c with index := it.2.2 }, it.2.1, _, _, _, _, ga, td, l, L5, rfl, hg.oth o08 (by simp [tdl, tdD]), gX, to.oth o08, there, tin, hl8, i2.oth (o2.trans (o28.mono (by simp))), csm.idx ⟨ii0, ii1⟩, hown, inode, iook, indp, by omega, idep, hdp, by unfold rank at hrk; omega, lL5, pok.snoc ish (by omega), by simp; omega, fun v H9 tv9 l9 o9 => ?_⟩
    have hD9 := o9.keep D _ (by simp [nlD.symm]) hD8
    have op : Oth [D] H9 (upd H9 D (.lst (out ++ [v]))) := Oth.put (by simp) hD9
    have o29 := (o28.mono (S' := [l, D]) (by simp)).trans ((o9.mono (by simp)).trans (op.mono (by simp)))
    refine ⟨out, hD9, Nat.lt_of_le_of_lt (by omega : out.length ≤ 50000) (by decide), out ++ [v], upd_same, ?_, ?_, o2.trans o29⟩
    · rw [take_snoc gi, List.map_append, List.map_append]
      exact paired_app (paired_oth po2 o29) (.cons (tv9.oth op) .nil)
    · rw [op.keep l _ (by simp [nlD]) l9, take_snoc gi, List.flatMap_append, List.map_append, ← List.append_assoc, ← hL5]
      simp
  · obtain ⟨out, hD2, po2, hl2, o2⟩ := hW
    rw [lxs, List.take_length] at po2 hl2
    refine .inl ⟨D, _, rfl, SqL.of hD2, fun t ht => ?_⟩
    have on := Oth.new (S := []) (o := .tup out) ht
    have o2' : Oth [l] H1 H2 := Oth.drop (p := D) (o2.mono (by simp)) hD
    refine q _ _ (.mk upd_same ?_) (by rw [on.keep l _ (by simp) hl2, List.map_append, ← List.append_assoc]) (o1.trans (o2'.trans (on.mono (by simp))))
    rw [Nd.toTs_map]
    exact paired_oth po2 on
theorem ok_mkpage {f fC : Addr} {fd dC : FuncData} {k n : Nat} (F : Fun K "make_page" "make_page" sMakePage f fd)
    (GMc : FnOk P w K mg base CX0 k fC dC ["given", "component", "path", "props"] (spMkComp P w n)) (bMc : Binds K dC ["given", "component", "path", "props"] []) (kMc : PySem.W.keepIn K (.ref fC) = true) (mMc : mg "_make_component" = some (.ref fC)) :
    FnOk P w K mg base CX0 (k + 1) f fd ["program", "store", "cells", "present"] (spMkPage n) := by
  refine F.ok scMakePage (fun vs H Q E h => ?_) (fun cdv A outer s H vs Q E' hr h => ?_)
  · obtain ⟨X, vp, vs', vc, vr, rfl, _⟩ := h
    rfl
  obtain ⟨X, vp, vs', vc, vr, rfl, tp, ts, tc, tr, gX, hrk, hn, q⟩ := h
  have nd := scMakePage.nd
  have hu20 : (A.deeper (envOfC "make_page" (defScope sMakePage) s.heap.objs.size f cdv)).units + 20 < cLine := by have := hr.un; omega
  refine ⟨_, (pss_cons (ps_setDcN (i := 4) (own := [("path", 5), ("values", 6)]) (g := gTup K 2 (gCons (gName 5) (gCons (gName 6) gNil))) hu20 rfl nd rfl rfl (swD_true rfl rfl rfl (by decide +kernel)) (pi_tup (pv 2)) (blkOk_by (N := ["program", "store", "cells", "present", "told", "path", "values"]) (sc := defScope sMakePage) (by decide +kernel)) (fun _ _ _ _ _ => (pg_tup rfl (pgs_cons (pg_name (i := 5) nd rfl (.inl rfl)) (pgs_cons (pg_name (i := 6) nd rfl (.inl rfl)) pgs_nil)))) (fun _ _ _ _ _ => (pv 5)) (fun _ _ _ _ _ => (pv 6)))
  (pss_one (ps_ret (pe_call GMc hr rfl mMc kMc bMc .nil pass0 (pa_cons (pe_tup (pa_cons (pv 0) (pa_cons (pv 1) (pa_cons (pv 4) (pa_cons (pv 3) pa_nil))))) (pa_cons pe_int (pa_cons (pe_tup pa_nil) (pa_cons (pe_tup pa_nil) pa_nil)))))))), ?_⟩
  obtain ⟨ac, xc, rfl, ec, pc⟩ := tc.inv
  have lxc : xc.length = X.cs.length := by rw [(paired_get pc).1, List.length_map]
  have hcl := gX.cl
  refine ⟨_, rfl, ac, rfl, ⟨xc, SqT.of ec⟩, fun D H2 hD o2 dn0 => dcN_tup (xs := xc)
    (fun j H3 => ∃ kvs, DN P w H3 D kvs ∧ Told H3 (X.cs.take j) kvs ∧ kvs.length ≤ j ∧ Oth [D] H H3) ⟨[], dn0, .nil, Nat.le_refl _, o2.mono (by simp)⟩ (fun j H3 _ hW => ?_) (fun j x H3 hx hW => ?_) (fun H3 hW => ?_)⟩
  · obtain ⟨_, _, _, _, o3⟩ := hW
    exact SqT.of (o3.tup _ _ ec)
  · obtain ⟨kvs, dn, told, lk, o3⟩ := hW
    have hj : j < X.cs.length := by rw [← lxc]; exact (List.getElem?_eq_some_iff.mp hx).1
    obtain ⟨it, gi⟩ : ∃ it, X.cs[j]? = some it := ⟨X.cs[j], List.getElem?_eq_getElem hj⟩
    have ti : IsT H (.tup [pathT it.1, intsT it.2]) x := (paired_get pc).2 j _ _ (by rw [List.getElem?_map, gi]; rfl) hx
    obtain ⟨ai, y1, y2, rfl, eai, i1, i2⟩ := IsT.inv2 ti
    obtain ⟨b, rfl, kb⟩ := path_key (i1.oth o3)
    refine ⟨ai, _, rfl, SqT.of (o3.tup _ _ eai), rfl, _, _, rfl, _, _, rfl, rfl, rfl, _, rfl, _, rfl, D, b, _, kvs, rfl, rfl, kb, dn, Nat.lt_of_le_of_lt (by omega : kvs.length ≤ 80000) (by decide), fun H4 o4 dn4 => ⟨_, dn4, ?_, by have := length_putK kvs (pathT it.1).nk y2; omega, o3.trans o4⟩⟩
    rw [take_snoc gi]
    exact (told.oth o4).put ((i2.oth o3).oth o4)
  · obtain ⟨kvs, dn, told, lk, o3⟩ := hW
    rw [lxc, List.take_length] at told
    have o3' := Oth.drop o3 hD
    refine ⟨_, rfl, _, rfl, _, rfl, _, rfl, sz, fun ga hga => ⟨sz, fun e1 he1 => ⟨sz, fun e2 he2 => ?_⟩⟩⟩
    have o4 := Oth.new (S := []) (o := .tup [vp, vs', .ref D, vr]) hga
    have o5 := Oth.new (S := []) (o := .tup []) he1
    have o6 := Oth.new (S := []) (o := .tup []) he2
    have o46 := o4.trans (o5.trans o6)
    have o06 := o3'.trans o46
    refine ⟨X, 0, [], [], _, _, ga, D, rfl, ⟨_, _, _, kvs, (o5.trans o6).tup _ _ upd_same, tp.oth o06, ts.oth o06, dn.oth o46 (by simp), told.oth o46, tr.oth o06⟩, gX, .mk (o6.tup _ _ upd_same) .nil, .mk upd_same .nil, Nat.zero_le _, (by intro x hx; cases hx), by omega, PathOk.nil, by simp; omega, fun v H7 tv o7 => q _ _ tv (o06.trans o7)⟩
end
abbrev sCompsIn : Stmt := topS 29
abbrev sCompsOf : Stmt := topS 23
abbrev sPeople : Stmt := topS 53
theorem scCompsIn : FnScope ["nodes", "found", "node", "inner", "path", "component", "props", "reads"] ["nodes"] (defScope sCompsIn) := ⟨rfl, rfl, rfl, by decide +kernel, rfl, by decide +kernel, by decide +kernel⟩
theorem scCompsOf : FnScope ["page", "reads", "nodes"] ["page"] (defScope sCompsOf) := ⟨rfl, rfl, rfl, by decide +kernel, rfl, by decide +kernel, by decide +kernel⟩
theorem scPeople : FnScope ["nodes", "rows", "node"] ["nodes"] (defScope sPeople) := ⟨rfl, rfl, rfl, by decide +kernel, rfl, by decide +kernel, by decide +kernel⟩
section
variable {P : Program} {w : World} {K : PySem.W.Frag} {mg : Str → Option Value} {base : Heap}
theorem ok_compsin {f : Addr} {fd : FuncData} {k n : Nat} (F : Fun K "_components_in" "_components_in" sCompsIn f fd)
    (GCi : FnOk P w K mg base CX0 k f fd ["nodes"] (spCompsIn n)) (bCi : Binds K fd ["nodes"] []) (kCi : PySem.W.keepIn K (.ref f) = true) (mCi : mg "_components_in" = some (.ref f)) :
    FnOk P w K mg base CX0 (k + 1) f fd ["nodes"] (spCompsIn (n + 1)) := by
  refine F.ok scCompsIn (fun vs H Q E h => ?_) (fun cdv A outer s H vs Q E' hr h => ?_)
  · obtain ⟨ns, v, rfl, _⟩ := h
    rfl
  obtain ⟨ns, v, rfl, tv, hh, hc, q⟩ := h
  have nd := scCompsIn.nd
  refine ⟨_, (pss_cons (ps_set (i := 1) nd rfl (.inl rfl) (pe_lst pa_nil))
  (pss_cons (ps_for PassesOwn.never rfl (pi_tup (pv 0)) (pg_name (i := 2) nd rfl (.inl rfl))
  (pss_one (ps_match (pv 2) (pcs_cons nd (pp_seq rfl (pps_cons' pp_str (pps_cons' pp_any (pps_cons' pp_any (pps_cons' pp_any (pps_cons' pp_any (pps_cons' (pp_name 3) pps_nil'))))))) (pss_one (ps_expr (pe_bm PySem.F.plainAttrs_list PySem.F.slot_list_extend PySem.F.type_list_extend mt_extend (pv 1) (pa_cons (pe_call GCi hr rfl mCi kCi bCi .nil pass0 (pa_cons (pv 3) pa_nil)) pa_nil))))
  (pcs_cons nd (pp_seq rfl (pps_cons' pp_str (pps_cons' (pp_name 4) (pps_cons' (pp_name 5) (pps_cons' (pp_name 6) (pps_cons' (pp_name 7) (pps_cons' (pp_name 3) pps_nil'))))))) (pss_cons (ps_expr (pe_bm PySem.F.plainAttrs_list PySem.F.slot_list_append PySem.F.type_list_append mt_append (pv 1) (pa_cons (pe_tup (pa_cons (pv 4) (pa_cons (pv 5) (pa_cons (pv 6) (pa_cons (pv 7) pa_nil))))) pa_nil)))
  (pss_one (ps_expr (pe_bm PySem.F.plainAttrs_list PySem.F.slot_list_extend PySem.F.type_list_extend mt_extend (pv 1) (pa_cons (pe_call GCi hr rfl mCi kCi bCi .nil pass0 (pa_cons (pv 3) pa_nil)) pa_nil)))))
  (pcs_cons nd pp_any (pss_one ps_pass)
  pcs_nil))))))
  (pss_one (ps_ret (pv 1))))), ?_⟩
  obtain ⟨a, xs, rfl, ea, pa⟩ := tv.inv
  have lx : xs.length = ns.length := by rw [(paired_get pa).1, Nd.toTs_map, List.length_map]
  refine ⟨sz, fun p hp => ?_⟩
  have o0 := Oth.new (S := []) (o := .lst []) hp
  refine ⟨_, rfl, a, rfl, ⟨xs, SqT.of (o0.tup _ _ ea)⟩, for_tup (xs := xs)
    (fun j σ H1 => ∃ (x2 x3 x4 x5 x6 x7 : Option V) (out : List V), σ = [some (.ref a), some (.ref p), x2, x3, x4, x5, x6, x7] ∧ Oth [p] H H1 ∧ H1 p = some (.lst out) ∧ Paired (IsT H1) ((Nd.ppls (ns.take j)).map whoT) out)
    ⟨none, none, none, none, none, none, [], rfl, o0.mono (by simp), upd_same, .nil⟩ (fun j σ H1 _ hW => ?_) (fun j x σ H1 hx hW => ?_) (fun σ H1 hW => ?_)⟩
  · obtain ⟨_, _, _, _, _, _, _, _, o1, _⟩ := hW
    exact SqT.of (o1.tup _ _ ea)
  · obtain ⟨x2, x3, x4, x5, x6, x7, out, rfl, o1, hp1, po1⟩ := hW
    have hj : j < ns.length := by rw [← lx]; exact (List.getElem?_eq_some_iff.mp hx).1
    obtain ⟨nd1, gn⟩ : ∃ nd, ns[j]? = some nd := ⟨ns[j], List.getElem?_eq_getElem hj⟩
    have tn : IsT H1 nd1.toT x := ((paired_get pa).2 j _ _ (by rw [Nd.toTs_map, List.getElem?_map, gn]; rfl) hx).oth o1
    have mem := List.mem_of_getElem? gn
    have hcn := ncnts_mem mem
    have hhn := hts_mem mem
    have lout : out.length ≤ 80000 := by
      have h1 := (paired_get po1).1
      rw [List.length_map] at h1
      have h2 := Nd.ppls_len (ns.take j)
      have h4 : Nd.cnts (ns.take j) ≤ Nd.cnts ns := by
        have e2 := congrArg Nd.cnts (List.take_append_drop j ns).symm
        rw [ncnts_app] at e2
        omega
      omega
    have fin : ∀ (H9 : Hp) (zs : List V) (y3 y4 y5 y6 y7 : Option V), Oth [p] H1 H9 → H9 p = some (.lst (out ++ zs)) → Paired (IsT H9) (nd1.ppl.map whoT) zs →
        ∃ (x2 x3 x4 x5 x6 x7 : Option V) (out' : List V), ([some (.ref a), some (.ref p), some x, y3, y4, y5, y6, y7] : L2.St) = [some (.ref a), some (.ref p), x2, x3, x4, x5, x6, x7] ∧ Oth [p] H H9 ∧ H9 p = some (.lst out') ∧ Paired (IsT H9) ((Nd.ppls (ns.take (j + 1))).map whoT) out' := fun H9 zs y3 y4 y5 y6 y7 o9 hp9 pz => by
      refine ⟨_, _, _, _, _, _, out ++ zs, rfl, o1.trans o9, hp9, ?_⟩
      rw [take_snoc gn, ppls_app, List.map_append]
      simp only [Nd.ppls, List.append_nil]
      exact paired_app (paired_oth po1 o9) pz
    cases nd1 with
    | box q' t o act inner =>
      obtain ⟨b, _, v1, v2, v3, v4, v5, rfl, eb, p0, p1, p2, p3, p4, p5⟩ := IsT.inv6 tn
      obtain rfl := p0.of_str
      simp only [Nd.ht] at hhn
      simp only [Nd.cnt] at hcn
      refine ⟨_, rfl, case_hit (SqT.of eb) rfl ⟨_, _, rfl, _, _, rfl, _, _, rfl, _, _, rfl, _, _, rfl, ?_⟩⟩
      refine ⟨_, rfl, .inl ⟨rfl, _, SqL.of hp1⟩, _, rfl, inner, _, rfl, p5, by omega, by omega, fun pz H2 zs hpz ez pz2 o2 => ?_⟩
      have lzs : zs.length ≤ 80000 := by
        have h1 := (paired_get pz2).1
        rw [List.length_map] at h1
        have := Nd.ppls_len inner
        omega
      have hp2 := o2.keep p _ (by simp) hp1
      have op : Oth [p] H2 (upd H2 p (.lst (out ++ zs))) := Oth.put (by simp) hp2
      refine ⟨p, pz, _, _, rfl, rfl, hp2, ez, Nat.le_trans (by omega : out.length + zs.length ≤ 160001) (by decide), ?_⟩
      exact fin _ zs _ _ _ _ _ ((o2.mono (by simp)).trans op) upd_same (paired_oth pz2 op)
    | child q' c ps rs inner =>
      obtain ⟨b, _, v1, v2, v3, v4, v5, rfl, eb, p0, p1, p2, p3, p4, p5⟩ := IsT.inv6 tn
      obtain rfl := p0.of_str
      simp only [Nd.ht] at hhn
      simp only [Nd.cnt] at hcn
      refine ⟨_, rfl, case_skip (SqT.of eb) (by decide) (case_hit (SqT.of eb) rfl ⟨_, _, rfl, _, _, rfl, _, _, rfl, _, _, rfl, _, _, rfl, ?_⟩)⟩
      refine ⟨_, rfl, .inl ⟨rfl, _, SqL.of hp1⟩, _, rfl, _, rfl, _, rfl, _, rfl, sz, fun t1 ht1 => ?_⟩
      have o2 := Oth.new (S := []) (o := .tup [v1, v2, v3, v4]) ht1
      have hp2 := o2.keep p _ (by simp) hp1
      refine ⟨p, _, _, rfl, rfl, hp2, Nat.lt_of_le_of_lt lout (by decide), ?_⟩
      have op : Oth [p] _ (upd (upd H1 t1 (.tup [v1, v2, v3, v4])) p (.lst (out ++ [.ref t1]))) := Oth.put (by simp) hp2
      have o13 := (o2.mono (S' := [p]) (by simp)).trans op
      have hp3 : (upd (upd H1 t1 (.tup [v1, v2, v3, v4])) p (.lst (out ++ [.ref t1]))) p = some (.lst (out ++ [.ref t1])) := upd_same
      have et3 := op.tup _ _ (upd_same : (upd H1 t1 (.tup [v1, v2, v3, v4])) t1 = _)
      generalize upd (upd H1 t1 (.tup [v1, v2, v3, v4])) p (.lst (out ++ [.ref t1])) = H3 at op o13 hp3 et3
      refine ⟨_, rfl, .inl ⟨rfl, _, SqL.of hp3⟩, _, rfl, inner, _, rfl, p5.oth o13, by omega, by omega, fun pz H4 zs hpz ez pz4 o4 => ?_⟩
      have lzs : zs.length ≤ 80000 := by
        have h1 := (paired_get pz4).1
        rw [List.length_map] at h1
        have := Nd.ppls_len inner
        omega
      have hp4 := o4.keep p _ (by simp) hp3
      have o5 : Oth [p] H4 (upd H4 p (.lst (out ++ [.ref t1] ++ zs))) := Oth.put (by simp) hp4
      have o35 := (o4.mono (S' := [p]) (by simp)).trans o5
      refine ⟨p, pz, _, _, rfl, rfl, hp4, ez, Nat.le_trans (by simp; omega : (out ++ [V.ref t1]).length + zs.length ≤ 160001) (by decide), ?_⟩
      have o15 := o13.trans o35
      refine fin _ ([.ref t1] ++ zs) _ _ _ _ _ o15 (by rw [← List.append_assoc]; exact upd_same) ?_
      simp only [Nd.ppl, List.map_cons]
      exact .cons (.mk4 (o35.tup _ _ et3) (p1.oth o15) (p2.oth o15) (p3.oth o15) (p4.oth o15)) (paired_oth pz4 o5)
    | place q' kk =>
      obtain ⟨b, _, v1, v2, rfl, eb, p0, _⟩ := IsT.inv3 tn
      obtain rfl := p0.of_str
      refine ⟨_, rfl, case_skip (SqT.of eb) (by decide) (case_skip (SqT.of eb) (by decide) ?_)⟩
      exact fin _ [] _ _ _ _ _ Oth.refl (by rw [List.append_nil]; exact hp1) .nil
    | text q' s' =>
      obtain ⟨b, _, v1, v2, rfl, eb, p0, _⟩ := IsT.inv3 tn
      obtain rfl := p0.of_str
      refine ⟨_, rfl, case_skip (SqT.of eb) (by decide) (case_skip (SqT.of eb) (by decide) ?_)⟩
      exact fin _ [] _ _ _ _ _ Oth.refl (by rw [List.append_nil]; exact hp1) .nil
    | input q' t o c v =>
      obtain ⟨b, _, v1, v2, v3, v4, v5, rfl, eb, p0, _⟩ := IsT.inv6 tn
      obtain rfl := p0.of_str
      refine ⟨_, rfl, case_skip (SqT.of eb) (by decide) (case_skip (SqT.of eb) (by decide) ?_)⟩
      exact fin _ [] _ _ _ _ _ Oth.refl (by rw [List.append_nil]; exact hp1) .nil
  · obtain ⟨x2, x3, x4, x5, x6, x7, out, rfl, o1, hp1, po1⟩ := hW
    rw [lx, List.take_length] at po1
    exact ⟨_, rfl, q p _ out hp hp1 po1 (Oth.drop o1 hp)⟩
theorem ok_compsof {f fI : Addr} {fd dI : FuncData} {k n : Nat} (F : Fun K "components_of" "components_of" sCompsOf f fd)
    (GCi : FnOk P w K mg base CX0 k fI dI ["nodes"] (spCompsIn n)) (bCi : Binds K dI ["nodes"] []) (kCi : PySem.W.keepIn K (.ref fI) = true) (mCi : mg "_components_in" = some (.ref fI)) (m_tuple : mg "tuple" = none) :
    FnOk P w K mg base CX0 (k + 1) f fd ["page"] (spCompsOf n) := by
  refine F.ok scCompsOf (fun vs H Q E h => ?_) (fun cdv A outer s H vs Q E' hr h => ?_)
  · obtain ⟨rs, ns, v, rfl, _⟩ := h
    rfl
  obtain ⟨rs, ns, v, rfl, tv, hh, hc, q⟩ := h
  have nd := scCompsOf.nd
  refine ⟨_, (pss_cons (ps_asg (pv 0) (pg_tup rfl (pgs_cons (pg_name (i := 1) nd rfl (.inl rfl)) (pgs_cons (pg_name (i := 2) nd rfl (.inl rfl)) pgs_nil))))
  (pss_one (ps_ret (pe_op op_catA (pe_tup (pa_cons (pe_tup (pa_cons (pe_tup pa_nil) (pa_cons pe_int (pa_cons (pe_tup pa_nil) (pa_cons (pv 1) pa_nil))))) pa_nil)) (pe_tupleOf (by rfl) m_tuple (pe_call GCi hr rfl mCi kCi bCi .nil pass0 (pa_cons (pv 2) pa_nil))))))), ?_⟩
  obtain ⟨a, v1, v2, rfl, ea, t1, t2⟩ := IsT.inv2 tv
  refine ⟨_, rfl, a, _, rfl, SqT.of ea, rfl, _, _, rfl, _, _, rfl, rfl, ?_⟩
  refine ⟨sz, fun e1 he1 => ⟨sz, fun e2 he2 => ⟨_, rfl, sz, fun e3 he3 => ⟨sz, fun e4 he4 => ?_⟩⟩⟩⟩
  have o1 := Oth.new (S := []) (o := .tup []) he1
  have o2 := Oth.new (S := []) (o := .tup []) he2
  have o3 := Oth.new (S := []) (o := .tup [.ref e1, .int 0, .ref e2, v1]) he3
  have o4 := Oth.new (S := []) (o := .tup [.ref e3]) he4
  have o14 := o1.trans (o2.trans (o3.trans o4))
  refine ⟨_, rfl, ns, _, rfl, t2.oth o14, hh, hc, fun p H5 zs hp ez pz o5 => .inl ⟨p, _, rfl, SqL.of ez, fun t6 ht6 => ?_⟩⟩
  have o6 := Oth.new (S := []) (o := .tup zs) ht6
  have lzs : zs.length ≤ 80000 := by
    have h1 := (paired_get pz).1
    rw [List.length_map] at h1
    have := Nd.ppls_len ns
    omega
  refine cat_t (o6.tup _ _ (o5.tup _ _ upd_same)) upd_same (by simp; omega) fun r H7 o7 e7 => ?_
  have o57 := o5.trans (o6.trans o7)
  have o47 := o4.trans o57
  refine q _ _ (.mk e7 (.cons ?_ (paired_oth pz (o6.trans o7)))) (o14.trans o57)
  exact .mk4 (o47.tup _ _ upd_same) (.mk ((o2.trans (o3.trans o47)).tup _ _ upd_same) .nil) (.int _) (.mk ((o3.trans o47).tup _ _ upd_same) .nil) (t1.oth (o14.trans o57))
theorem ok_people {f : Addr} {fd : FuncData} {k n : Nat} (F : Fun K "_law_people" "_law_people" sPeople f fd)
    (GLp : FnOk P w K mg base CX0 k f fd ["nodes"] (spPeople n)) (bLp : Binds K fd ["nodes"] []) (kLp : PySem.W.keepIn K (.ref f) = true) (mLp : mg "_law_people" = some (.ref f)) :
    FnOk P w K mg base CX0 (k + 1) f fd ["nodes"] (spPeople (n + 1)) := by
  refine F.ok scPeople (fun vs H Q E h => ?_) (fun cdv A outer s H vs Q E' hr h => ?_)
  · obtain ⟨ns, v, rfl, _⟩ := h
    rfl
  obtain ⟨ns, v, rfl, tv, hh, hc, q⟩ := h
  have nd := scPeople.nd
  refine ⟨_, (pss_cons (ps_set (i := 1) nd rfl (.inl rfl) (pe_lst pa_nil))
  (pss_cons (ps_for PassesOwn.never rfl (pi_tup (pv 0)) (pg_name (i := 2) nd rfl (.inl rfl))
  (pss_one (ps_if (pt_cmpR op_eq (pe_ix ix_tup (pv 2) pe_int (fun _ _ => rfl)) pe_str (nomark _))
  (pss_cons (ps_expr (pe_bm PySem.F.plainAttrs_list PySem.F.slot_list_append PySem.F.type_list_append mt_append (pv 1) (pa_cons (pe_lst (pa_cons (pe_ix ix_tup (pv 2) pe_int (fun _ _ => rfl)) (pa_cons (pe_ix ix_tup (pv 2) pe_int (fun _ _ => rfl)) (pa_cons (pe_ix ix_tup (pv 2) pe_int (fun _ _ => rfl)) (pa_cons (pe_ix ix_tup (pv 2) pe_int (fun _ _ => rfl)) pa_nil))))) pa_nil)))
  (pss_one (ps_set (i := 1) nd rfl (.inl rfl) (pe_op op_cat (pv 1) (pe_call GLp hr rfl mLp kLp bLp .nil pass0 (pa_cons (pe_ix ix_tup (pv 2) pe_int (fun _ _ => rfl)) pa_nil))))))
  (pss_one (ps_if (pt_cmpR op_eq (pe_ix ix_tup (pv 2) pe_int (fun _ _ => rfl)) pe_str (nomark _))
  (pss_one (ps_set (i := 1) nd rfl (.inl rfl) (pe_op op_cat (pv 1) (pe_call GLp hr rfl mLp kLp bLp .nil pass0 (pa_cons (pe_ix ix_tup (pv 2) pe_int (fun _ _ => rfl)) pa_nil)))))
  pss_nil)))))
  (pss_one (ps_ret (pv 1))))), ?_⟩
  obtain ⟨a, xs, rfl, ea, pa⟩ := tv.inv
  have lx : xs.length = ns.length := by rw [(paired_get pa).1, Nd.toTs_map, List.length_map]
  refine ⟨sz, fun p0 hp0 => ?_⟩
  have o0 := Oth.new (S := []) (o := .lst []) hp0
  refine ⟨_, rfl, a, rfl, ⟨xs, SqT.of (o0.tup _ _ ea)⟩, for_tup (xs := xs)
    (fun j σ H1 => ∃ (x2 : Option V) (p : Addr) (out : List V), σ = [some (.ref a), some (.ref p), x2] ∧ H p = none ∧ Oth [] H H1 ∧ H1 p = some (.lst out) ∧ Fresh H out ∧ WhoLs H1 (Nd.ppls (ns.take j)) out)
    ⟨none, p0, [], rfl, hp0, o0, upd_same, (fun v hv => nomatch hv), .nil⟩ (fun j σ H1 _ hW => ?_) (fun j x σ H1 hx hW => ?_) (fun σ H1 hW => ?_)⟩
  · obtain ⟨_, _, _, _, _, o1, _⟩ := hW
    exact SqT.of (o1.tup _ _ ea)
  · obtain ⟨x2, p, out, rfl, hp, o1, hp1, fr1, po1⟩ := hW
    have hj : j < ns.length := by rw [← lx]; exact (List.getElem?_eq_some_iff.mp hx).1
    obtain ⟨nd1, gn⟩ : ∃ nd, ns[j]? = some nd := ⟨ns[j], List.getElem?_eq_getElem hj⟩
    have tn : IsT H1 nd1.toT x := ((paired_get pa).2 j _ _ (by rw [Nd.toTs_map, List.getElem?_map, gn]; rfl) hx).oth o1
    have mem := List.mem_of_getElem? gn
    have hcn := ncnts_mem mem
    have hhn := hts_mem mem
    have lout : out.length ≤ 80000 := by
      have h1 := po1.len
      have h2 := Nd.ppls_len (ns.take j)
      have h4 : Nd.cnts (ns.take j) ≤ Nd.cnts ns := by
        have e2 := congrArg Nd.cnts (List.take_append_drop j ns).symm
        rw [ncnts_app] at e2
        omega
      omega
    have more : ∀ (H9 : Hp) (p' : Addr) (zs : List V), H p' = none → Oth [] H H9 → H9 p' = some (.lst (out ++ zs)) → Fresh H zs → WhoLs H9 (Nd.ppls (ns.take j)) out → WhoLs H9 nd1.ppl zs →
        ∃ (x2 : Option V) (p : Addr) (out' : List V), ([some (.ref a), some (.ref p'), some x] : L2.St) = [some (.ref a), some (.ref p), x2] ∧ H p = none ∧ Oth [] H H9 ∧ H9 p = some (.lst out') ∧ Fresh H out' ∧ WhoLs H9 (Nd.ppls (ns.take (j + 1))) out' := fun H9 p' zs hp' o9 hp9 fz po9 pz => by
      refine ⟨_, p', out ++ zs, rfl, hp', o9, hp9, fr1.app fz, ?_⟩
      rw [take_snoc gn, ppls_app]
      simp only [Nd.ppls, List.append_nil]
      exact po9.app pz
    have back : ∀ {H5 : Hp} {z : Addr}, Oth [] H H5 → H5 z = none → H z = none := fun {H5 z} o5 hz => by
      cases e : H z with
      | none => rfl
      | some o => rw [o5.keep z o (by simp) e] at hz; cases hz
    cases nd1 with
    | child q' c ps rs inner =>
      obtain ⟨b, _, v1, v2, v3, v4, v5, rfl, eb, p0', p1, p2, p3, p4, p5⟩ := IsT.inv6 tn
      obtain rfl := p0'.of_str
      obtain rfl := p2.of_int
      simp only [Nd.ht] at hhn
      simp only [Nd.cnt] at hcn
      refine ⟨_, rfl, b, _, _, _, rfl, rfl, SqT.of eb, at0, rfl, _, rfl, iteTd rfl ?_⟩
      refine ⟨_, rfl, .inl ⟨rfl, _, SqL.of hp1⟩, _, rfl, b, _, _, _, rfl, rfl, SqT.of eb, at1, _, rfl, b, _, _, _, rfl, rfl, SqT.of eb, at2, _, rfl, b, _, _, _, rfl, rfl, SqT.of eb, at3, _, rfl, b, _, _, _, rfl, rfl, SqT.of eb, at4, sz, fun t1 ht1 => ?_⟩
      have o2 := Oth.new (S := []) (o := .lst [v1, .int (c : Int), v3, v4]) ht1
      have hp2 := o2.keep p _ (by simp) hp1
      refine ⟨p, _, _, rfl, rfl, hp2, Nat.lt_of_le_of_lt lout (by decide), ?_⟩
      have ntp : t1 ≠ p := (ne_of_none hp1 ht1).symm
      have op : Oth [p] _ (upd (upd H1 t1 (.lst [v1, .int (c : Int), v3, v4])) p (.lst (out ++ [.ref t1]))) := Oth.put (by simp) hp2
      have o13 := (o2.mono (S' := [p]) (by simp)).trans op
      have o03 : Oth [] H _ := Oth.drop (p := p) ((o1.mono (by simp)).trans o13) hp
      have hp3 : (upd (upd H1 t1 (.lst [v1, .int (c : Int), v3, v4])) p (.lst (out ++ [.ref t1]))) p = some (.lst (out ++ [.ref t1])) := upd_same
      have et3 := op.keep t1 _ (by simp [ntp]) (upd_same : (upd H1 t1 (.lst [v1, .int (c : Int), v3, v4])) t1 = _)
      have po3 := po1.oth o13 (fun v hv a ha => by rw [List.mem_singleton.mp ha]; exact po1.ne_self hp1 fr1 v hv)
      have ht0 := back o1 ht1
      generalize upd (upd H1 t1 (.lst [v1, .int (c : Int), v3, v4])) p (.lst (out ++ [.ref t1])) = H3 at op o13 o03 hp3 et3 po3
      refine ⟨_, rfl, _, rfl, b, _, _, _, rfl, rfl, SqT.of (o13.tup _ _ eb), at5, inner, _, rfl, p5.oth o13, by omega, by omega, fun pz H4 zs hpz ez fz wz o4 => ?_⟩
      have lzs : zs.length ≤ 80000 := by
        have h1 := wz.len
        have := Nd.ppls_len inner
        omega
      refine ⟨p, pz, _, _, rfl, rfl, o4.keep p _ (by simp) hp3, ez, Nat.le_trans (by simp; omega : (out ++ [V.ref t1]).length + zs.length ≤ 160001) (by decide), fun r5 hr5 => ?_⟩
      have o5 := Oth.new (S := []) (o := .lst (out ++ [V.ref t1] ++ zs)) hr5
      have o35 := o4.trans o5
      have o15 := o13.trans (o35.mono (by simp))
      refine more _ r5 ([.ref t1] ++ zs) (back (o03.trans o4) hr5) (o03.trans o35) (by rw [← List.append_assoc]; exact upd_same) ?_ (po3.oth o35 (fun v _ a ha => nomatch ha)) ?_
      · refine Fresh.app (fun v hv => ?_) (fz.back o03)
        rw [List.mem_singleton.mp hv]
        exact ⟨t1, rfl, ht0⟩
      · simp only [Nd.ppl]
        refine .cons ⟨t1, v1, v3, v4, rfl, o35.keep t1 _ (by simp) et3, p1.oth o15, p3.oth o15, p4.oth o15⟩ (wz.oth o5 (fun v _ a ha => nomatch ha))
    | box q' t o act inner =>
      obtain ⟨b, _, v1, v2, v3, v4, v5, rfl, eb, p0', p1, p2, p3, p4, p5⟩ := IsT.inv6 tn
      obtain rfl := p0'.of_str
      simp only [Nd.ht] at hhn
      simp only [Nd.cnt] at hcn
      refine ⟨_, rfl, b, _, _, _, rfl, rfl, SqT.of eb, at0, rfl, _, rfl, iteFd (by decide) ?_⟩
      refine ⟨_, rfl, b, _, _, _, rfl, rfl, SqT.of eb, at0, rfl, _, rfl, iteTd rfl ?_⟩
      refine ⟨_, rfl, _, rfl, b, _, _, _, rfl, rfl, SqT.of eb, at5, inner, _, rfl, p5, by omega, by omega, fun pz H4 zs hpz ez fz wz o4 => ?_⟩
      have lzs : zs.length ≤ 80000 := by
        have h1 := wz.len
        have := Nd.ppls_len inner
        omega
      refine ⟨p, pz, _, _, rfl, rfl, o4.keep p _ (by simp) hp1, ez, Nat.le_trans (by omega : out.length + zs.length ≤ 160001) (by decide), fun r5 hr5 => ?_⟩
      have o5 := Oth.new (S := []) (o := .lst (out ++ zs)) hr5
      have o15 := o4.trans o5
      exact more _ r5 zs (back (o1.trans o4) hr5) (o1.trans o15) upd_same (fz.back o1) (po1.oth o15 (fun v _ a ha => nomatch ha)) (wz.oth o5 (fun v _ a ha => nomatch ha))
    | place q' kk =>
      obtain ⟨b, _, v1, v2, rfl, eb, p0', _⟩ := IsT.inv3 tn
      obtain rfl := p0'.of_str
      refine ⟨_, rfl, b, _, _, _, rfl, rfl, SqT.of eb, at0, rfl, _, rfl, iteFd (by decide) ?_⟩
      refine ⟨_, rfl, b, _, _, _, rfl, rfl, SqT.of eb, at0, rfl, _, rfl, iteFd (by decide) ?_⟩
      exact more _ p [] hp o1 (by rw [List.append_nil]; exact hp1) (fun v hv => nomatch hv) po1 .nil
    | text q' s' =>
      obtain ⟨b, _, v1, v2, rfl, eb, p0', _⟩ := IsT.inv3 tn
      obtain rfl := p0'.of_str
      refine ⟨_, rfl, b, _, _, _, rfl, rfl, SqT.of eb, at0, rfl, _, rfl, iteFd (by decide) ?_⟩
      refine ⟨_, rfl, b, _, _, _, rfl, rfl, SqT.of eb, at0, rfl, _, rfl, iteFd (by decide) ?_⟩
      exact more _ p [] hp o1 (by rw [List.append_nil]; exact hp1) (fun v hv => nomatch hv) po1 .nil
    | input q' t o c v =>
      obtain ⟨b, _, v1, v2, v3, v4, v5, rfl, eb, p0', _⟩ := IsT.inv6 tn
      obtain rfl := p0'.of_str
      refine ⟨_, rfl, b, _, _, _, rfl, rfl, SqT.of eb, at0, rfl, _, rfl, iteFd (by decide) ?_⟩
      refine ⟨_, rfl, b, _, _, _, rfl, rfl, SqT.of eb, at0, rfl, _, rfl, iteFd (by decide) ?_⟩
      exact more _ p [] hp o1 (by rw [List.append_nil]; exact hp1) (fun v hv => nomatch hv) po1 .nil
  · obtain ⟨x2, p, out, rfl, hp, o1, hp1, fr1, po1⟩ := hW
    rw [lx, List.take_length] at po1
    exact ⟨_, rfl, q p _ out hp hp1 fr1 po1 o1⟩
end
abbrev sSettle : Stmt := topS 32
abbrev sFirstW : Stmt := topS 31
abbrev sPageOf : Stmt := topS 33
abbrev sLawCells : Stmt := topS 54
abbrev sLawSettle : Stmt := topS 55
abbrev sLawFirst : Stmt := topS 56
theorem scSettle : FnScope ["program", "store", "cells", "present", "rising", "told", "page", "settled", "path", "values", "component", "_"] ["program", "store", "cells", "present"] (defScope sSettle) := ⟨rfl, rfl, rfl, by decide +kernel, rfl, by decide +kernel, by decide +kernel⟩
theorem scFirstW : FnScope ["program", "present"] ["program", "present"] (defScope sFirstW) := ⟨rfl, rfl, rfl, by decide +kernel, rfl, by decide +kernel, by decide +kernel⟩
theorem scPageOf : FnScope ["program", "world", "_", "store", "cells", "present"] ["program", "world"] (defScope sPageOf) := ⟨rfl, rfl, rfl, by decide +kernel, rfl, by decide +kernel, by decide +kernel⟩
theorem scLawCells : FnScope ["about", "path", "number", "item"] ["about", "path", "number"] (defScope sLawCells) := ⟨rfl, rfl, rfl, by decide +kernel, rfl, by decide +kernel, by decide +kernel⟩
theorem scLawSettle : FnScope ["about", "people", "cells", "row"] ["about"] (defScope sLawSettle) := ⟨rfl, rfl, rfl, by decide +kernel, rfl, by decide +kernel, by decide +kernel⟩
theorem scLawFirst : FnScope ["program", "present"] ["program", "present"] (defScope sLawFirst) := ⟨rfl, rfl, rfl, by decide +kernel, rfl, by decide +kernel, by decide +kernel⟩
section
variable {P : Program} {w : World} {K : PySem.W.Frag} {mg : Str → Option Value} {base : Heap}
theorem ok_settle {f fM fO : Addr} {fd dM dO : FuncData} {k : Nat} (F : Fun K "settle" "settle" sSettle f fd)
    (GMg : FnOk P w K mg base CX0 k fM dM ["program", "store", "cells", "present"] (spMkPage 12)) (bMg : Binds K dM ["program", "store", "cells", "present"] []) (kMg : PySem.W.keepIn K (.ref fM) = true) (mMg : mg "make_page" = some (.ref fM))
    (GCo : FnOk P w K mg base CX0 k fO dO ["page"] (spCompsOf 13)) (bCo : Binds K dO ["page"] []) (kCo : PySem.W.keepIn K (.ref fO) = true) (mCo : mg "components_of" = some (.ref fO))
    (m_tuple : mg "tuple" = none) (m_sorted : mg "sorted" = none) (m_set : mg "set" = none) :
    FnOk P w K mg base CX0 (k + 1) f fd ["program", "store", "cells", "present"] spSettle := by
  refine F.ok scSettle (fun vs H Q E h => ?_) (fun cdv A outer s H vs Q E' hr h => ?_)
  · obtain ⟨X, ps, vp, vs', vc, vr, rfl, _⟩ := h
    rfl
  obtain ⟨X, ps, vp, vs', vc, vr, rfl, tp, ts, tc, tr, gX, asc, mem, lps, q⟩ := h
  have nd := scSettle.nd
  have hu20 : (A.deeper (envOfC "settle" (defScope sSettle) s.heap.objs.size f cdv)).units + 20 < cLine := by have := hr.un; omega
  refine ⟨_, (pss_cons (ps_set (i := 4) nd rfl (.inl rfl) (pe_tupleOf (by rfl) m_tuple (pe_callB (cr_sortedSet rfl) (by rfl) m_sorted bo_sorted (pa_cons (pe_callTy (cr_setTu rfl) (by rfl) m_set bo_set (pa_cons (pv 3) pa_nil)) pa_nil))))
  (pss_cons (ps_set (i := 5) nd rfl (.inr rfl) (pe_dcN (own := [("path", 8), ("values", 9)]) (g := gTup K 2 (gCons (gName 8) (gCons (gName 9) gNil))) hu20 rfl nd (pi_tup (pv 2)) (blkOk_by (N := ["program", "store", "cells", "present", "rising", "told", "page", "settled", "path", "values", "component", "_"]) (sc := defScope sSettle) (by decide +kernel)) (fun _ _ _ _ _ => (pg_tup rfl (pgs_cons (pg_name (i := 8) nd rfl (.inl rfl)) (pgs_cons (pg_name (i := 9) nd rfl (.inl rfl)) pgs_nil)))) (fun _ _ _ _ _ => (pv 8)) (fun _ _ _ _ _ => (pv 9))))
  (pss_cons (ps_set (i := 6) nd rfl (.inl rfl) (pe_call GMg hr rfl mMg kMg bMg .nil pass0 (pa_cons (pv 0) (pa_cons (pv 1) (pa_cons (pv 2) (pa_cons (pv 4) pa_nil))))))
  (pss_cons (ps_set (i := 7) nd rfl (.inl rfl) (pe_tupleOf (by rfl) m_tuple (pe_lc (own := [("path", 8), ("component", 10), ("_", 11)]) (g := gTup K 4 (gCons (gName 8) (gCons (gName 10) (gCons (gName 11) (gCons (gName 11) gNil))))) (tt := tYes) rfl nd (pi_tup (pe_call GCo hr rfl mCo kCo bCo .nil pass0 (pa_cons (pv 6) pa_nil))) (blkOk_by (N := ["program", "store", "cells", "present", "rising", "told", "page", "settled", "path", "values", "component", "_"]) (sc := defScope sSettle) (by decide +kernel)) (fun _ _ _ _ _ => (pg_tup rfl (pgs_cons (pg_name (i := 8) nd rfl (.inl rfl)) (pgs_cons (pg_name (i := 10) nd rfl (.inl rfl)) (pgs_cons (pg_name (i := 11) nd rfl (.inl rfl)) (pgs_cons (pg_name (i := 11) nd rfl (.inl rfl)) pgs_nil)))))) (fun _ _ _ _ _ => pts_nil) (fun _ _ _ _ _ => (pe_tup (pa_cons (pv 8) (pa_cons (pe_getN2 (P := P) (w := w) rfl rfl hu20 (pv 5) (pv 8) (pe_ix (r := rIxT K) ix_tup (pe_ix (r := rIxT K) ix_tup (pe_ix (r := rIxT K) ix_tup (pv 0) pe_int (fun _ _ => rfl)) (pv 10) (fun _ _ => rfl)) pe_int (fun _ _ => rfl)) ⟨rfl, rfl, rfl, rfl⟩) pa_nil)))))))
  (pss_one (ps_ret (pe_tup (pa_cons pe_str (pa_cons (pv 1) (pa_cons (pv 7) (pa_cons (pv 4) pa_nil))))))))))), ?_⟩
  obtain ⟨ar, rfl, ear⟩ := tr.nats
  have ear' : H ar = some (.tup ((ps.map Int.ofNat).map V.int)) := by rw [List.map_map]; exact ear
  obtain ⟨ac, xc, rfl, ec, pc⟩ := tc.inv
  have lxc : xc.length = X.cs.length := by rw [(paired_get pc).1, List.length_map]
  have hcl := gX.cl
  have hlast : X.g.comps.length - 1 ≤ 2 := by have := gX.g.many; omega
  -- the parts, rising
  refine ⟨_, rfl, ar, _, rfl, ear', by simp; omega, fun p1 c1 hp1 hc1 => ?_⟩
  have o1 := Oth.new (S := []) (o := SetO w p1 (fun j => decide (j ∈ ps.map Int.ofNat)) c1) hp1
  refine ⟨p1, _, c1, rfl, upd_same, by simp at hc1; omega, fun ns lo nasc nmem lns hlo => ?_⟩
  have ens : ns = X.pres.map Int.ofNat := asc_eq nasc (nat_asc asc) fun x => by
    rw [nmem, decide_eq_true_iff, List.mem_map, List.mem_map]
    constructor <;> rintro ⟨i, hi, rfl⟩
    · exact ⟨i, (mem i).mpr hi, rfl⟩
    · exact ⟨i, (mem i).mp hi, rfl⟩
  have o2 := Oth.new (S := []) (o := .lst (ns.map V.int)) hlo
  refine .inl ⟨lo, _, rfl, SqL.of upd_same, fun tr' htr => ?_⟩
  have o3 := Oth.new (S := []) (o := .tup (ns.map V.int)) htr
  have o13 := o1.trans (o2.trans o3)
  have trise : IsT (upd (upd (upd H p1 (SetO w p1 (fun j => decide (j ∈ ps.map Int.ofNat)) c1)) lo (.lst (ns.map V.int))) tr' (.tup (ns.map V.int))) (natsT X.pres) (.ref tr') := mkNats (by rw [upd_same, ens, List.map_map]; rfl)
  -- what is told
  refine ⟨_, rfl, ac, rfl, ⟨xc, SqT.of (o13.tup _ _ ec)⟩, fun D H2 hD o4 dn0 => dcN_tup (xs := xc)
    (fun j H4 => ∃ kvs, DN P w H4 D kvs ∧ Told H4 (X.cs.take j) kvs ∧ kvs.length ≤ j ∧ Oth [D] H H4 ∧ IsT H4 (natsT X.pres) (.ref tr')) ⟨[], dn0, .nil, Nat.le_refl _, (o13.trans o4).mono (by simp), trise.oth o4⟩ (fun j H4 _ hW => ?_) (fun j x H4 hx hW => ?_) (fun H4 hW => ?_)⟩
  · obtain ⟨_, _, _, _, o5, _⟩ := hW
    exact SqT.of (o5.tup _ _ ec)
  · obtain ⟨kvs, dn, told, lk, o5, tri⟩ := hW
    have hj : j < X.cs.length := by rw [← lxc]; exact (List.getElem?_eq_some_iff.mp hx).1
    obtain ⟨it, gi⟩ : ∃ it, X.cs[j]? = some it := ⟨X.cs[j], List.getElem?_eq_getElem hj⟩
    have ti : IsT H (.tup [pathT it.1, intsT it.2]) x := (paired_get pc).2 j _ _ (by rw [List.getElem?_map, gi]; rfl) hx
    obtain ⟨ai, y1, y2, rfl, eai, i1, i2⟩ := IsT.inv2 ti
    obtain ⟨b, rfl, kb⟩ := path_key (i1.oth o5)
    refine ⟨ai, _, rfl, SqT.of (o5.tup _ _ eai), rfl, _, _, rfl, _, _, rfl, rfl, rfl, _, rfl, _, rfl, D, b, _, kvs, rfl, rfl, kb, dn, Nat.lt_of_le_of_lt (by omega : kvs.length ≤ 80000) (by decide), fun H6 o6 dn6 => ⟨_, dn6, ?_, by have := length_putK kvs (pathT it.1).nk y2; omega, o5.trans o6, tri.oth o6⟩⟩
    rw [take_snoc gi]
    exact (told.oth o6).put ((i2.oth o5).oth o6)
  obtain ⟨kvs, dn, told, lk, o5, trise4⟩ := hW
  rw [lxc, List.take_length] at told
  have o5' := Oth.drop o5 (by
    cases e : H D with
    | none => rfl
    | some z => rw [o13.keep D z (by simp) e] at hD; cases hD)
  -- the page
  refine ⟨_, rfl, _, rfl, _, rfl, _, rfl, X, _, _, _, _, rfl, tp.oth o5', ts.oth o5', .mk (o5'.tup _ _ ec) (paired_oth pc o5'), trise4, gX, by omega, by omega, fun vpage H6 tpage o6 => ?_⟩
  obtain ⟨f1, f2, f3⟩ := page_facts gX
  have ect : compT X 12 [] 0 [] = .tup [intsT (X.reads (lkAll 12 (X.sc [] 0 []) (X.comp 0).cs)), .tup (Nd.toTs (fill X 12 [] (X.sc [] 0 []) (X.comp 0).cs []))] := rfl
  rw [ect] at tpage
  have ews := whos_eq X
  refine ⟨_, rfl, _, _, _, rfl, tpage, by omega, by omega, fun vw H7 tw o7 => ?_⟩
  rw [← ews] at tw
  have wok := whos_ok gX
  have wln := whos_len gX
  have eset : X.settled = X.whos.map fun x => (x.1, X.cells x.1 x.2.1) := rfl
  obtain ⟨aw, xw, rfl, ew, pw⟩ := tw.inv
  have lxw : xw.length = X.whos.length := by rw [(paired_get pw).1, List.length_map]
  have o67 := o6.trans o7
  have o57 := o5'.trans o67
  have dn7 := dn.oth o67 (by simp)
  have told7 := told.oth o67
  obtain ⟨pga, pgc, pgs, pgq, pcs, rfl, epga, epgc, ppgc, epgs, epgq⟩ := Pq.inv (tp.oth o57)
  have lpc : pcs.length = X.g.comps.length := by rw [(paired_get ppgc).1, List.length_map]
  refine ⟨aw, rfl, ⟨xw, SqT.of ew⟩, fun D2 hD2 => lc_tup (xs := xw)
    (fun j H8 => ∃ vs : List V, H8 D2 = some (.lst vs) ∧ vs.length = j ∧ Paired (IsT H8) ((X.settled.take j).map fun it => .tup [pathT it.1, intsT it.2]) vs ∧ Oth [D2] H7 H8)
    ⟨[], upd_same, rfl, .nil, Oth.new hD2⟩ (fun j H8 _ hW => ?_) (fun j x H8 hx hW => ?_) (fun H8 hW => ?_)⟩
  · obtain ⟨_, _, _, _, o8⟩ := hW
    exact SqT.of (o8.tup _ _ ew)
  · obtain ⟨vs, hD8, lv8, pv8, o8⟩ := hW
    have hj : j < X.whos.length := by rw [← lxw]; exact (List.getElem?_eq_some_iff.mp hx).1
    obtain ⟨who, gw⟩ : ∃ x, X.whos[j]? = some x := ⟨X.whos[j], List.getElem?_eq_getElem hj⟩
    have gs : X.settled[j]? = some (who.1, X.cells who.1 who.2.1) := by rw [eset, List.getElem?_map, gw]; rfl
    have tx : IsT H7 (whoT who) x := (paired_get pw).2 j _ _ (by rw [List.getElem?_map, gw]; rfl) hx
    obtain ⟨ax, y1, y2, y3, y4, rfl, ex, i1, i2, i3, i4⟩ := IsT.inv4 tx
    obtain rfl := i2.of_int
    obtain ⟨bp, rfl, kp⟩ := path_key (i1.oth o8)
    have hw := wok who (List.mem_of_getElem? gw)
    have hdl : who.2.1 < X.g.comps.length := by have := hw.2.1; have := gX.g.ne; omega
    have ecd : X.comp who.2.1 = X.g.comps[who.2.1] := by
      unfold Pc.comp
      rw [List.getD_eq_getElem?_getD, List.getElem?_eq_getElem hdl]; rfl
    have hpd : pcs[who.2.1]? = some (pcs[who.2.1]'(by omega)) := List.getElem?_eq_getElem _
    have tcq : IsT H7 (X.comp who.2.1).toT (pcs[who.2.1]'(by omega)) := (paired_get ppgc).2 who.2.1 _ _ (by rw [List.getElem?_map, List.getElem?_eq_getElem hdl, ecd]; rfl) hpd
    generalize pcs[who.2.1]'(by omega) = vcq at hpd tcq
    obtain ⟨ca, cx, vct, vca, rfl, eca, ecx, _, _⟩ := Cq.inv tcq
    have nD : D ≠ D2 := dn7.ne hD2
    have dn8 := dn7.oth o8 (by simp [nD])
    have tcell : IsT H8 (intsT (X.cells who.1 who.2.1)) ((valV kvs (pathT who.1).nk).getD (.ref cx)) := by
      unfold Pc.cells
      rw [lastOf_fold]
      have z := (told7.oth o8) who.1
      revert z
      cases lastOf X.cs who.1 <;> cases valV kvs (pathT who.1).nk <;> intro z
      · exact .mkI (ns := intsOf (X.comp who.2.1).cells) (by rw [ints_map]; exact o8.tup _ _ ecx)
      · exact z.elim
      · exact z.elim
      · exact z
    refine ⟨ax, _, rfl, SqT.of (o8.tup _ _ ex), rfl, _, _, rfl, _, _, rfl, _, _, rfl, _, _, rfl, rfl, rfl, ?_⟩
    refine ⟨_, rfl, _, rfl, D, rfl, ⟨kvs, dn8⟩, _, rfl, _, rfl, pga, _, _, _, rfl, rfl, SqT.of (o8.tup _ _ epga), at1, _, rfl, pgc, _, _, _, rfl, rfl, SqT.of (o8.tup _ _ epgc), atI_nat hpd, ca, _, _, _, rfl, rfl, SqT.of (o8.tup _ _ eca), at1, bp, _, kvs, rfl, kp, dn8, sz, fun t ht => ?_⟩
    have o9 := Oth.new (S := []) (o := .tup [.ref bp, (valV kvs (pathT who.1).nk).getD (.ref cx)]) ht
    have hD9 := o9.keep D2 _ (by simp) hD8
    have op : Oth [D2] _ (upd (upd H8 t (.tup [.ref bp, (valV kvs (pathT who.1).nk).getD (.ref cx)])) D2 (.lst (vs ++ [.ref t]))) := Oth.put (by simp) hD9
    have o810 := (o9.mono (S' := [D2]) (by simp)).trans op
    refine ⟨vs, hD9, Nat.lt_of_le_of_lt (by omega : vs.length ≤ 80000) (by decide), vs ++ [.ref t], upd_same, by rw [List.length_append, lv8]; rfl, ?_, o8.trans o810⟩
    rw [take_snoc gs, List.map_append]
    exact paired_app (paired_oth pv8 o810) (.cons (.mk2 (op.tup _ _ upd_same) ((i1.oth o8).oth o810) (tcell.oth o810)) .nil)
  · obtain ⟨vs, hD8, lv8, pv8, o8⟩ := hW
    have lse : X.settled.length = X.whos.length := by rw [eset, List.length_map]
    rw [lxw, ← lse, List.take_length] at pv8
    have o8' := Oth.drop o8 hD2
    refine .inl ⟨D2, _, rfl, SqL.of hD8, fun t ht => ⟨_, rfl, _, rfl, _, rfl, sz, fun r hr' => ?_⟩⟩
    have o9 := Oth.new (S := []) (o := .tup vs) ht
    have o10 := Oth.new (S := []) (o := .tup [.str "world", vs', .ref t, .ref tr']) hr'
    have o610 := o67.trans (o8'.trans (o9.trans o10))
    have o510 := o5'.trans o610
    exact q _ _ (.mk4 upd_same (.str _) (ts.oth o510) (.mk (o10.tup _ _ upd_same) (paired_oth pv8 (o9.trans o10))) (trise4.oth o610)) o510
theorem ok_firstw {f fS : Addr} {fd dS : FuncData} {k : Nat} (F : Fun K "first_world" "first_world" sFirstW f fd)
    (GWs : FnOk P w K mg base CX0 k fS dS ["program", "store", "cells", "present"] spSettle) (bWs : Binds K dS ["program", "store", "cells", "present"] []) (kWs : PySem.W.keepIn K (.ref fS) = true) (mWs : mg "settle" = some (.ref fS)) :
    FnOk P w K mg base CX0 (k + 1) f fd ["program", "present"] spFirstW := by
  refine F.ok scFirstW (fun vs H Q E h => ?_) (fun cdv A outer s H vs Q E' hr h => ?_)
  · obtain ⟨X, vp, vr, rfl, _⟩ := h
    rfl
  obtain ⟨X, vp, vr, rfl, tp, tr, est, ecs, gX, asc, q⟩ := h
  have nd := scFirstW.nd
  refine ⟨_, (pss_one (ps_ret (pe_call GWs hr rfl mWs kWs bWs .nil pass0 (pa_cons (pv 0) (pa_cons (pe_ix ix_tup (pv 0) pe_int (fun _ _ => rfl)) (pa_cons (pe_tup pa_nil) (pa_cons (pv 1) pa_nil))))))), ?_⟩
  obtain ⟨pa, pc, ps', pq, pcs, rfl, epa, epc, ppc, eps, epq⟩ := Pq.inv tp
  refine ⟨_, rfl, _, rfl, pa, _, _, _, rfl, rfl, SqT.of epa, at2, sz, fun e1 he1 => ⟨_, rfl, ?_⟩⟩
  have o1 := Oth.new (S := []) (o := .tup []) he1
  refine ⟨X, X.pres, _, _, _, _, rfl, tp.oth o1, by rw [est]; exact .mkI (by rw [ints_map]; exact o1.tup _ _ eps), by rw [ecs]; exact .mk upd_same .nil, tr.oth o1, gX, asc, fun _ => Iff.rfl, by have := gX.pl; omega, fun v H2 tv o2 => q _ _ tv (o1.trans o2)⟩
theorem ok_pageof {f fM : Addr} {fd dM : FuncData} {k : Nat} (F : Fun K "page_of" "page_of" sPageOf f fd)
    (GMg : FnOk P w K mg base CX0 k fM dM ["program", "store", "cells", "present"] (spMkPage 12)) (bMg : Binds K dM ["program", "store", "cells", "present"] []) (kMg : PySem.W.keepIn K (.ref fM) = true) (mMg : mg "make_page" = some (.ref fM)) :
    FnOk P w K mg base CX0 (k + 1) f fd ["program", "world"] spPageOf := by
  refine F.ok scPageOf (fun vs H Q E h => ?_) (fun cdv A outer s H vs Q E' hr h => ?_)
  · obtain ⟨X, vp, vw, rfl, _⟩ := h
    rfl
  obtain ⟨X, vp, vw, rfl, tp, tw, gX, q⟩ := h
  have nd := scPageOf.nd
  refine ⟨_, (pss_cons (ps_asg (pv 1) (pg_tup rfl (pgs_cons (pg_name (i := 2) nd rfl (.inl rfl)) (pgs_cons (pg_name (i := 3) nd rfl (.inl rfl)) (pgs_cons (pg_name (i := 4) nd rfl (.inl rfl)) (pgs_cons (pg_name (i := 5) nd rfl (.inl rfl)) pgs_nil))))))
  (pss_one (ps_ret (pe_call GMg hr rfl mMg kMg bMg .nil pass0 (pa_cons (pv 0) (pa_cons (pv 3) (pa_cons (pv 4) (pa_cons (pv 5) pa_nil)))))))), ?_⟩
  have hlast : X.g.comps.length - 1 ≤ 2 := by have := gX.g.many; omega
  obtain ⟨a, v0, v1, v2, v3, rfl, ea, p0, p1, p2, p3⟩ := IsT.inv4 tw
  refine ⟨_, rfl, a, _, rfl, SqT.of ea, rfl, _, _, rfl, _, _, rfl, _, _, rfl, _, _, rfl, rfl, ?_⟩
  exact ⟨_, rfl, _, rfl, _, rfl, _, rfl, X, _, _, _, _, rfl, tp, p1, p2, p3, gX, by omega, by omega, q⟩
theorem ok_lawcells {f : Addr} {fd : FuncData} {k : Nat} (F : Fun K "_law_cells_at" "_law_cells_at" sLawCells f fd) :
    FnOk P w K mg base CX0 (k + 1) f fd ["about", "path", "number"] spLawCells := by
  refine F.ok scLawCells (fun vs H Q E h => ?_) (fun cdv A outer s H vs Q E' hr h => ?_)
  · obtain ⟨X, p, d, ab, vp, rfl, _⟩ := h
    rfl
  obtain ⟨X, p, d, ab, vp, rfl, hab, gX, ndp, tp, pok, hd, q⟩ := h
  have nd := scLawCells.nd
  refine ⟨_, (pss_cons (ps_for PassesOwn.never rfl (pi_tup (pe_ix ix_list (pv 0) pe_int (fun _ _ => rfl))) (pg_name (i := 3) nd rfl (.inl rfl))
  (pss_one (ps_if (pt_cmpR (op_eqT (Room.units65 hr)) (pe_ix ix_tup (pv 3) pe_int (fun _ _ => rfl)) (pv 1) (nomark _))
  (pss_one (ps_ret (pe_ix ix_tup (pv 3) pe_int (fun _ _ => rfl))))
  pss_nil)))
  (pss_one (ps_ret (pe_ix ix_tup (pe_ix ix_tup (pe_ix ix_tup (pe_ix ix_list (pv 0) pe_int (fun _ _ => rfl)) pe_int (fun _ _ => rfl)) (pv 2) (fun _ _ => rfl)) pe_int (fun _ _ => rfl))))), ?_⟩
  obtain ⟨vgp, vgs, vgc, vgr, eab, tg, tgs, tgc, tgr⟩ := hab.ex
  obtain ⟨ac, xc, rfl, ec, pc⟩ := tgc.inv
  have lxc : xc.length = X.cs.length := by rw [(paired_get pc).1, List.length_map]
  have ecell : X.cells p d = (firstOf X.cs p).getD (intsOf (X.comp d).cells) := by unfold Pc.cells; rw [lastOf_fold, firstOf_last ndp]
  rw [ecell] at q
  refine ⟨_, rfl, ab, _, _, _, rfl, rfl, SqL.of eab, at2, ac, rfl, ⟨xc, SqT.of ec⟩, for_tup (xs := xc)
    (fun j σ H1 => H1 = H ∧ ∃ (x3 : Option V), σ = [some (.ref ab), some vp, some (.int (d : Int)), x3] ∧ firstOf X.cs p = firstOf (X.cs.drop j) p)
    ⟨rfl, none, rfl, rfl⟩ (fun j σ H1 _ hW => ?_) (fun j x σ H1 hx hW => ?_) (fun σ H1 hW => ?_)⟩
  · obtain ⟨rfl, _⟩ := hW
    exact SqT.of ec
  · obtain ⟨rfl, x3, rfl, ef⟩ := hW
    have hj : j < X.cs.length := by rw [← lxc]; exact (List.getElem?_eq_some_iff.mp hx).1
    obtain ⟨it, gi⟩ : ∃ it, X.cs[j]? = some it := ⟨X.cs[j], List.getElem?_eq_getElem hj⟩
    have ti : IsT H1 (.tup [pathT it.1, intsT it.2]) x := (paired_get pc).2 j _ _ (by rw [List.getElem?_map, gi]; rfl) hx
    obtain ⟨ai, y1, y2, rfl, eai, i1, i2⟩ := IsT.inv2 ti
    have im := List.mem_of_getElem? gi
    have ed : X.cs.drop j = it :: X.cs.drop (j + 1) := by
      rw [List.drop_eq_getElem_cons hj]
      have := List.getElem?_eq_getElem hj
      rw [gi] at this
      rw [← Option.some.inj this]
    rw [ed] at ef
    refine ⟨_, rfl, ai, _, _, _, rfl, rfl, SqT.of eai, at0, _, rfl, pathT it.1, pathT p, i1, tp, (gX.paths it im).eqb, pok.eqb, _, rfl, ?_⟩
    by_cases he : it.1 = p
    · refine iteTb (by show decide _ = true; rw [decide_eq_true (path_nk.mpr he)]) ⟨_, rfl, ai, _, _, _, rfl, rfl, SqT.of eai, at1, q _ ?_⟩
      rw [ef]
      simp only [firstOf, if_pos he, Option.getD]
      exact i2
    · refine iteFb (by show decide _ = false; rw [decide_eq_false (fun z => he (path_nk.mp z))]) ⟨rfl, _, rfl, ?_⟩
      rw [ef]
      simp only [firstOf, if_neg he]
  · obtain ⟨rfl, x3, rfl, ef⟩ := hW
    rw [lxc, List.drop_length] at ef
    obtain ⟨pga, pgc, pgs, pgq, pcs, rfl, epga, epgc, ppgc, epgs, epgq⟩ := Pq.inv tg
    have lpc : pcs.length = X.g.comps.length := by rw [(paired_get ppgc).1, List.length_map]
    have hdl : d < X.g.comps.length := by have := gX.g.ne; omega
    have ecd : X.comp d = X.g.comps[d] := by
      unfold Pc.comp
      rw [List.getD_eq_getElem?_getD, List.getElem?_eq_getElem hdl]; rfl
    have hpd : pcs[d]? = some (pcs[d]'(by omega)) := List.getElem?_eq_getElem _
    have tcq : IsT H1 (X.comp d).toT (pcs[d]'(by omega)) := (paired_get ppgc).2 d _ _ (by rw [List.getElem?_map, List.getElem?_eq_getElem hdl, ecd]; rfl) hpd
    generalize pcs[d]'(by omega) = vcq at hpd tcq
    obtain ⟨ca, cx, vct, vca, rfl, eca, ecx, _, _⟩ := Cq.inv tcq
    refine ⟨_, rfl, ab, _, _, _, rfl, rfl, SqL.of eab, at0, pga, _, _, _, rfl, rfl, SqT.of epga, at1, _, rfl, pgc, _, _, _, rfl, rfl, SqT.of epgc, atI_nat hpd, ca, _, _, _, rfl, rfl, SqT.of eca, at1, q _ ?_⟩
    rw [ef]
    exact .mkI (ns := intsOf (X.comp d).cells) (by rw [ints_map]; exact ecx)
theorem ok_lawsettle {f fC fL fA : Addr} {fd dC dL dA : FuncData} {k : Nat} (F : Fun K "_law_settle" "_law_settle" sLawSettle f fd)
    (GLc : FnOk P w K mg base CX0 k fC dC ["about", "path", "number", "props"] (spLawChild 12)) (bLc : Binds K dC ["about", "path", "number", "props"] []) (kLc : PySem.W.keepIn K (.ref fC) = true) (mLc : mg "_law_child" = some (.ref fC))
    (GLp : FnOk P w K mg base CX0 k fL dL ["nodes"] (spPeople 14)) (bLp : Binds K dL ["nodes"] []) (kLp : PySem.W.keepIn K (.ref fL) = true) (mLp : mg "_law_people" = some (.ref fL))
    (GLa : FnOk P w K mg base CX0 k fA dA ["about", "path", "number"] spLawCells) (bLa : Binds K dA ["about", "path", "number"] []) (kLa : PySem.W.keepIn K (.ref fA) = true) (mLa : mg "_law_cells_at" = some (.ref fA))
    (m_tuple : mg "tuple" = none) (m_sorted : mg "sorted" = none) :
    FnOk P w K mg base CX0 (k + 1) f fd ["about"] spLawSettle := by
  refine F.ok scLawSettle (fun vs H Q E h => ?_) (fun cdv A outer s H vs Q E' hr h => ?_)
  · obtain ⟨X, ab, rfl, _⟩ := h
    rfl
  obtain ⟨X, ab, rfl, hab, gX, ndp, asc, q⟩ := h
  have nd := scLawSettle.nd
  refine ⟨_, (pss_cons (ps_set (i := 1) nd rfl (.inl rfl) (pe_call GLp hr rfl mLp kLp bLp .nil pass0 (pa_cons (pe_tup (pa_cons (pe_call GLc hr rfl mLc kLc bLc .nil pass0 (pa_cons (pv 0) (pa_cons (pe_tup pa_nil) (pa_cons pe_int (pa_cons (pe_tup pa_nil) pa_nil))))) pa_nil)) pa_nil)))
  (pss_cons (ps_setLc (i := 2) (own := [("row", 3)]) (g := gName 3) (tt := tYes) rfl nd rfl rfl (sw_true rfl rfl rfl (by decide +kernel)) (pi_list (pv 1)) (blkOk_by (N := ["about", "people", "cells", "row"]) (sc := defScope sLawSettle) (by decide +kernel)) (fun _ _ _ _ _ => (pg_name (i := 3) nd rfl (.inl rfl))) (fun _ _ _ _ _ => pts_nil) (fun _ _ _ _ _ => (pe_tup (pa_cons (pe_ix (r := rIxL K) ix_list (pv 3) pe_int (fun _ _ => rfl)) (pa_cons (pe_call GLa hr rfl mLa kLa bLa .nil pass0 (pa_cons (pv 0) (pa_cons (pe_ix (r := rIxL K) ix_list (pv 3) pe_int (fun _ _ => rfl)) (pa_cons (pe_ix (r := rIxL K) ix_list (pv 3) pe_int (fun _ _ => rfl)) pa_nil)))) pa_nil)))))
  (pss_one (ps_ret (pe_lst (pa_cons (pe_ix ix_list (pv 0) pe_int (fun _ _ => rfl)) (pa_cons (pe_tupleOf (by rfl) m_tuple (pe_ix ix_list (pv 0) pe_int (fun _ _ => rfl))) (pa_cons (pe_tupleOf (by rfl) m_tuple (pv 2)) (pa_cons (pe_tupleOf (by rfl) m_tuple (pe_callB cr_sortedTu (by rfl) m_sorted bo_sorted (pa_cons (pe_ix ix_list (pv 0) pe_int (fun _ _ => rfl)) pa_nil))) pa_nil))))))))), ?_⟩
  have hlast : X.g.comps.length - 1 ≤ 2 := by have := gX.g.many; omega
  refine ⟨_, rfl, sz, fun t1 ht1 => ⟨sz, fun t2 ht2 => ?_⟩⟩
  have o9 := (Oth.new (S := []) (o := .tup []) ht1).trans (Oth.new (o := .tup []) ht2)
  refine ⟨X, 0, [], [], _, _, ab, rfl, hab.oth o9 (by simp), gX, .mk ((Oth.new (S := []) ht2).tup _ _ upd_same) .nil, .mk upd_same .nil, Nat.zero_le _, (by intro x hx; cases hx), by omega, PathOk.nil, by simp, fun vpg H10 tpg o10 => ?_⟩
  obtain ⟨c1, c2, c3, c4⟩ := child_facts gX
  have ewh : X.whos = Nd.ppls [child X 12 [] 0 []] := rfl
  have wok := whos_ok gX
  have wln := whos_len gX
  have eset : X.settled = X.whos.map fun x => (x.1, X.cells x.1 x.2.1) := rfl
  generalize child X 12 [] 0 [] = nd0 at tpg c1 c2 c3 c4 ewh
  refine ⟨sz, fun t3 ht3 => ?_⟩
  have o11 := Oth.new (S := []) (o := .tup [vpg]) ht3
  refine ⟨[nd0], _, rfl, .mk upd_same (.cons (tpg.oth o11) .nil), by simp only [Nd.hts]; omega, by simp only [Nd.cnts]; omega, fun pz H12 rs hpz ez fz wz o12 => ?_⟩
  rw [← ewh] at wz
  have lws := wz.len
  have o012 := o9.trans (o10.trans (o11.trans o12))
  have hab12 := hab.oth o012 (by simp)
  refine ⟨_, rfl, pz, rfl, ⟨rs, SqL.of ez⟩, fun D hD => lc_list (xs := rs)
    (fun j H13 => ∃ vs : List V, H13 D = some (.lst vs) ∧ vs.length = j ∧ Paired (IsT H13) ((X.settled.take j).map fun it => .tup [pathT it.1, intsT it.2]) vs ∧ Oth [D] H12 H13)
    ⟨[], upd_same, rfl, .nil, Oth.new hD⟩ (fun j H13 _ hW => ?_) (fun j x H13 hx hW => ?_) (fun H13 hW => ?_)⟩
  · obtain ⟨_, _, _, _, o13⟩ := hW
    exact SqL.of (o13.keep pz _ (by simp [ne_of_none ez hD]) ez)
  · obtain ⟨vs, hD13, lv13, pv13, o13⟩ := hW
    obtain ⟨who, gw, wl⟩ := wz.get hx
    obtain ⟨r, vp, vq, vr, rfl, er, twp, twq, twr⟩ := wl.ex
    have er13 := o13.keep r _ (by simp [ne_of_none er hD]) er
    have hw := wok who (List.mem_of_getElem? gw)
    have hj : j < X.whos.length := (List.getElem?_eq_some_iff.mp gw).1
    have gs : X.settled[j]? = some (who.1, X.cells who.1 who.2.1) := by rw [eset, List.getElem?_map, gw]; rfl
    refine ⟨rfl, ⟨_, rfl, r, _, _, _, rfl, rfl, SqL.of er13, at0, _, rfl, _, rfl, r, _, _, _, rfl, rfl, SqL.of er13, at0, _, rfl, r, _, _, _, rfl, rfl, SqL.of er13, at1, X, who.1, who.2.1, ab, _, rfl, hab12.oth o13 (by simp [hab12.ne hD]), gX, ndp, twp.oth o13, hw.1, hw.2.1, fun vcell tcell => ⟨sz, fun t ht => ?_⟩⟩⟩
    have p6 := Oth.new (S := []) (o := .tup [vp, vcell]) ht
    have hD20 := p6.keep D _ (by simp) hD13
    have op : Oth [D] _ (upd (upd H13 t (.tup [vp, vcell])) D (.lst (vs ++ [.ref t]))) := Oth.put (by simp) hD20
    have o1820 := o13.trans ((p6.mono (by simp)).trans op)
    refine ⟨vs, hD20, Nat.lt_of_le_of_lt (by omega : vs.length ≤ 80000) (by decide), vs ++ [.ref t], upd_same, by rw [List.length_append, lv13]; rfl, ?_, o1820⟩
    rw [take_snoc gs, List.map_append]
    exact paired_app (paired_oth (paired_oth pv13 p6) op) (.cons (.mk2 (op.tup _ _ upd_same) (twp.oth o1820) ((tcell.oth p6).oth op)) .nil)
  obtain ⟨vs, hD13, lv13, pv13, o13⟩ := hW
  have lse : X.settled.length = X.whos.length := by rw [eset, List.length_map]
  rw [lws, ← lse, List.take_length] at pv13
  have o13' := Oth.drop o13 hD
  have o013 := o012.trans o13'
  obtain ⟨vgp, vgs, vgc, vgr, eab, tg, tgs, tgc, tgr⟩ := (hab.oth o013 (by simp)).ex
  obtain ⟨ast, rfl, east⟩ := tgs.ints
  obtain ⟨apr, rfl, epr⟩ := tgr.nats
  have epr' : H13 apr = some (.tup ((X.pres.map Int.ofNat).map V.int)) := by rw [List.map_map]; exact epr
  have pl := gX.pl
  refine ⟨_, rfl, ab, _, _, _, rfl, rfl, SqL.of eab, at0, _, rfl, ab, _, _, _, rfl, rfl, SqL.of eab, at1, .inr ⟨ast, _, rfl, SqT.of east, ?_⟩⟩
  refine ⟨_, rfl, .inl ⟨D, _, rfl, SqL.of hD13, fun t4 ht4 => ?_⟩⟩
  have p1 := Oth.new (S := []) (o := .tup vs) ht4
  refine ⟨_, rfl, ab, _, _, _, rfl, rfl, SqL.of (p1.keep ab _ (by simp) eab), at3, apr, _, rfl, p1.tup _ _ epr', by simp; omega, fun ns' lo perm le hlo => ?_⟩
  have ens := perm_asc perm le (nat_asc asc)
  have p2 := Oth.new (S := []) (o := .lst (ns'.map V.int)) hlo
  refine .inl ⟨lo, _, rfl, SqL.of upd_same, fun t5 ht5 => ⟨sz, fun r6 hr6 => ?_⟩⟩
  have p3 := Oth.new (S := []) (o := .tup (ns'.map V.int)) ht5
  have p4 := Oth.new (S := []) (o := .lst [vgp, .ref ast, .ref t4, .ref t5]) hr6
  have p24 := p2.trans (p3.trans p4)
  have p14 := p1.trans p24
  refine q r6 _ ?_ ⟨_, _, _, _, upd_same, tg.oth p14, tgs.oth p14, .mk (p24.tup _ _ upd_same) (paired_oth pv13 p14), mkNats (by rw [p4.tup _ _ upd_same, ens, List.map_map]; rfl)⟩ (o013.trans p14)
  cases e : H r6 with
  | none => rfl
  | some z => rw [(o013.trans (p1.trans (p2.trans p3))).keep r6 z (by simp) e] at hr6; cases hr6
theorem ok_lawfirst {f fS : Addr} {fd dS : FuncData} {k : Nat} (F : Fun K "_law_first" "_law_first" sLawFirst f fd)
    (GLs : FnOk P w K mg base CX0 k fS dS ["about"] spLawSettle) (bLs : Binds K dS ["about"] []) (kLs : PySem.W.keepIn K (.ref fS) = true) (mLs : mg "_law_settle" = some (.ref fS)) (m_tuple : mg "tuple" = none) :
    FnOk P w K mg base CX0 (k + 1) f fd ["program", "present"] spLawFirst := by
  refine F.ok scLawFirst (fun vs H Q E h => ?_) (fun cdv A outer s H vs Q E' hr h => ?_)
  · obtain ⟨X, vp, vr, rfl, _⟩ := h
    rfl
  obtain ⟨X, vp, vr, rfl, tp, tr, est, ecs, gX, asc, q⟩ := h
  have nd := scLawFirst.nd
  refine ⟨_, (pss_one (ps_ret (pe_call GLs hr rfl mLs kLs bLs .nil pass0 (pa_cons (pe_lst (pa_cons (pv 0) (pa_cons (pe_ix ix_tup (pv 0) pe_int (fun _ _ => rfl)) (pa_cons (pe_tup pa_nil) (pa_cons (pe_tupleOf (by rfl) m_tuple (pv 1)) pa_nil))))) pa_nil)))), ?_⟩
  obtain ⟨pa, pc, ps', pq, pcs, rfl, epa, epc, ppc, eps, epq⟩ := Pq.inv tp
  obtain ⟨apr, rfl, epr⟩ := tr.nats
  refine ⟨_, rfl, _, rfl, pa, _, _, _, rfl, rfl, SqT.of epa, at2, sz, fun e1 he1 => ⟨_, rfl, .inr ⟨apr, _, rfl, SqT.of ((Oth.new (S := []) he1).tup _ _ epr), sz, fun ab hab => ?_⟩⟩⟩
  have o1 := Oth.new (S := []) (o := .tup []) he1
  have o2 := Oth.new (S := []) (o := .lst [.ref pa, .ref ps', .ref e1, .ref apr]) hab
  have o12 := o1.trans o2
  refine ⟨X, ab, rfl, ⟨_, _, _, _, upd_same, tp.oth o12, by rw [est]; exact .mkI (by rw [ints_map]; exact o12.tup _ _ eps), by rw [ecs]; exact .mk (o2.tup _ _ upd_same) .nil, tr.oth o12⟩, gX, by rw [ecs]; simp, asc, fun r H3 hr3 hab3 o3 => q r H3 ?_ hab3 (o12.trans o3)⟩
  cases e : H r with
  | none => rfl
  | some z => rw [o12.keep r z (by simp) e] at hr3; cases hr3
end
abbrev sNums : Stmt := topS 9
abbrev sWName : Stmt := topS 7
abbrev sWAct : Stmt := topS 8
abbrev sWords : Stmt := topS 6
theorem scNums : FnScope ["numbers", "number"] ["numbers"] (defScope sNums) := ⟨rfl, rfl, rfl, by decide +kernel, rfl, by decide +kernel, by decide +kernel⟩
theorem scWName : FnScope ["name", "address", "worth", "repeats"] ["name"] (defScope sWName) := ⟨rfl, rfl, rfl, by decide +kernel, rfl, by decide +kernel, by decide +kernel⟩
theorem scWAct : FnScope ["action"] ["action"] (defScope sWAct) := ⟨rfl, rfl, rfl, by decide +kernel, rfl, by decide +kernel, by decide +kernel⟩
theorem scWords : FnScope ["words", "word"] ["words"] (defScope sWords) := ⟨rfl, rfl, rfl, by decide +kernel, rfl, by decide +kernel, by decide +kernel⟩
section
variable {P : Program} {w : World} {K : PySem.W.Frag} {mg : Str → Option Value} {base : Heap}
theorem ok_nums {f : Addr} {fd : FuncData} {k : Nat} (F : Fun K "_numbers" "_numbers" sNums f fd) (m_str : mg "str" = none) :
    FnOk P w K mg base CX0 (k + 1) f fd ["numbers"] spNums := by
  refine F.ok scNums (fun vs H Q E h => ?_) (fun cdv A outer s H vs Q E' hr h => ?_)
  · obtain ⟨ns, v, rfl, _⟩ := h
    rfl
  obtain ⟨ns, v, rfl, tv, sm, ln, q⟩ := h
  have nd := scNums.nd
  refine ⟨_, (pss_cons (ps_if (pt_not (pt_truth (pv 0) (by intro _; rfl)))
  (pss_one (ps_ret pe_str))
  pss_nil)
  (pss_one (ps_ret (pe_join pe_str (pe_lc (own := [("number", 1)]) (g := gName 1) (tt := tYes) rfl nd (pi_tup (pv 0)) (blkOk_by (N := ["numbers", "number"]) (sc := defScope sNums) (by decide +kernel)) (fun _ _ _ _ _ => (pg_name (i := 1) nd rfl (.inl rfl))) (fun _ _ _ _ _ => pts_nil) (fun _ _ _ _ _ => (pe_callTy call_str_int (by rfl) m_str bo_str (pa_cons (pv 1) pa_nil)))))))), ?_⟩
  obtain ⟨a, rfl, ea⟩ := tv.ints
  cases ns with
  | nil => exact ⟨_, rfl, false, .inr (.inl ⟨_, SqT.of ea, rfl⟩), iteT (q H Oth.refl)⟩
  | cons n ns =>
    refine ⟨_, rfl, true, .inr (.inl ⟨_, SqT.of ea, rfl⟩), iteF ?_⟩
    refine ⟨⟨_, rfl⟩, _, rfl, a, rfl, ⟨_, SqT.of ea⟩, fun D hD => lc_tup (xs := (n :: ns).map V.int)
      (fun j H1 => H1 D = some (.lst ((((n :: ns).take j).map numS).map V.str)) ∧ Oth [D] H H1) ⟨upd_same, Oth.new hD⟩ (fun j H1 _ hW => ?_) (fun j x H1 hx hW => ?_) (fun H1 hW => ?_)⟩
    · exact SqT.of (hW.2.tup _ _ ea)
    · obtain ⟨hD1, o1⟩ := hW
      rw [List.getElem?_map] at hx
      obtain ⟨i, gi, rfl⟩ := Option.map_eq_some_iff.mp hx
      have op : Oth [D] H1 (upd H1 D (.lst ((((n :: ns).take j).map numS).map V.str ++ [.str (numS i)]))) := Oth.put (by simp) hD1
      refine ⟨rfl, _, rfl, i, rfl, natAbs_log (sm i (List.mem_of_getElem? gi)), _, hD1, Nat.lt_of_le_of_lt (by rw [List.length_map, List.length_map, List.length_take]; omega : ((((n :: ns).take j).map numS).map V.str).length ≤ 1000) (by decide), ?_, o1.trans op⟩
      rw [upd_same, take_snoc gi, List.map_append, List.map_append]
      rfl
    · obtain ⟨hD1, o1⟩ := hW
      rw [List.length_map, List.take_length] at hD1
      have h1 := nums_sum sm
      refine ⟨_, D, _, rfl, rfl, .inl (SqL.of hD1), ?_, ?_⟩
      · have hd : (("." : Str)).length = 1 := dot1
        rw [hd, List.length_map]
        omega
      · rw [join_txt]
        exact q H1 (Oth.drop o1 hD)
theorem ok_wname {f fN : Addr} {fd dN : FuncData} {k : Nat} (F : Fun K "_name" "_name" sWName f fd)
    (GWnu : FnOk P w K mg base CX0 k fN dN ["numbers"] spNums) (bWnu : Binds K dN ["numbers"] []) (kWnu : PySem.W.keepIn K (.ref fN) = true) (mWnu : mg "_numbers" = some (.ref fN)) :
    FnOk P w K mg base CX0 (k + 1) f fd ["name"] spWName := by
  refine F.ok scWName (fun vs H Q E h => ?_) (fun cdv A outer s H vs Q E' hr h => ?_)
  · obtain ⟨n, v, rfl, _⟩ := h
    rfl
  obtain ⟨n, v, rfl, tv, fit, np, q⟩ := h
  have nd := scWName.nd
  refine ⟨_, (pss_one (ps_match (pv 0) (pcs_cons nd (pp_seq rfl (pps_cons' pp_str (pps_cons' (pp_name 1) (pps_cons' (pp_name 2) pps_nil')))) (pss_one (ps_ret (pe_joined (.cons pe_str (.cons (pe_fmt (pe_call GWnu hr rfl mWnu kWnu bWnu .nil pass0 (pa_cons (pv 1) pa_nil))) (.cons pe_str (.cons (pe_fmt (pv 2)) .nil)))))))
  (pcs_cons nd (pp_seq rfl (pps_cons' pp_str (pps_cons' (pp_name 1) (pps_cons' (pp_name 3) pps_nil')))) (pss_one (ps_ret (pe_joined (.cons pe_str (.cons (pe_fmt (pe_call GWnu hr rfl mWnu kWnu bWnu .nil pass0 (pa_cons (pv 1) pa_nil))) (.cons pe_str (.cons (pe_fmt (pe_call GWnu hr rfl mWnu kWnu bWnu .nil pass0 (pa_cons (pv 3) pa_nil))) .nil)))))))
  pcs_nil)))), ?_⟩
  obtain ⟨s1, s2, s3, s4, _⟩ := sign1
  cases n with
  | part k => cases np
  | key t v =>
    obtain ⟨b, _, v1, v2, rfl, eb, p0, p1, p2⟩ := IsT.inv3 tv
    obtain rfl := p0.of_str
    obtain rfl := p2.of_int
    have l1 := nums_len fit.1
    have l2 := numS_len fit.2.2
    have l3 := fit.2.1
    refine ⟨_, rfl, case_hit (SqT.of eb) rfl ⟨_, _, rfl, _, _, rfl, ?_⟩⟩
    refine ⟨_, rfl, by rw [strE, s1]; exact sz, _, rfl, t, _, rfl, p1, fit.1, by omega, fun H1 o1 => .inl ⟨_, rfl, szT (by omega), _, rfl, szT (by rw [strE, lenA, s1]; omega), _, rfl, szT (by rw [strE, lenA, lenA, s1, s3]; omega), _, rfl, .inr ⟨v, rfl, natAbs_log fit.2.2, _, rfl, szT (by rw [strE, lenA, lenA, lenA, s1, s3]; show _ + (numS v).length ≤ _; omega), ?_⟩⟩⟩
    rw [strE]
    exact q H1 o1
  | «at» t i =>
    obtain ⟨b, _, v1, v2, rfl, eb, p0, p1, p2⟩ := IsT.inv3 tv
    obtain rfl := p0.of_str
    have l1 := nums_len fit.1
    have l2 := nums_len fit.2.1
    have l3 := fit.2.2.1
    have l4 := fit.2.2.2
    refine ⟨_, rfl, case_skip (SqT.of eb) (by decide) (case_hit (SqT.of eb) rfl ⟨_, _, rfl, _, _, rfl, ?_⟩)⟩
    refine ⟨_, rfl, by rw [strE, s2]; exact sz, _, rfl, t, _, rfl, p1, fit.1, by omega, fun H1 o1 => .inl ⟨_, rfl, szT (by omega), _, rfl, szT (by rw [strE, lenA, s2]; omega), _, rfl, szT (by rw [strE, lenA, lenA, s2, s4]; omega), _, rfl, i, _, rfl, p2.oth o1, fit.2.1, by omega, fun H2 o2 => .inl ⟨_, rfl, szT (by omega), _, rfl, szT (by rw [strE, lenA, lenA, lenA, s2, s4]; omega), ?_⟩⟩⟩
    rw [strE]
    exact q H2 (o1.trans o2)
theorem ok_wact {f : Addr} {fd : FuncData} {k : Nat} (F : Fun K "_action" "_action" sWAct f fd) (m_str : mg "str" = none) :
    FnOk P w K mg base CX0 (k + 1) f fd ["action"] spWAct := by
  refine F.ok scWAct (fun vs H Q E h => ?_) (fun cdv A outer s H vs Q E' hr h => ?_)
  · obtain ⟨a, v, rfl, _⟩ := h
    rfl
  obtain ⟨a, v, rfl, tv, sm, q⟩ := h
  have nd := scWAct.nd
  refine ⟨_, (pss_one (ps_ret (pe_ifExp (pt_cmpR op_isN (pv 0) pe_non (nomark _)) pe_str (pe_callTy call_str_int (by rfl) m_str bo_str (pa_cons (pv 0) pa_nil))))), ?_⟩
  cases a with
  | none =>
    obtain rfl := tv.of_non
    exact ⟨_, rfl, rfl, _, rfl, iteT q⟩
  | some n =>
    obtain rfl := tv.of_int
    exact ⟨_, rfl, rfl, _, rfl, iteF ⟨_, rfl, _, rfl, natAbs_nat (sm n rfl), q⟩⟩
theorem ok_words {f : Addr} {fd : FuncData} {k : Nat} (F : Fun K "_words" "_words" sWords f fd) :
    FnOk P w K mg base CX0 (k + 1) f fd ["words"] spWords := by
  refine F.ok scWords (fun vs H Q E h => ?_) (fun cdv A outer s H vs Q E' hr h => ?_)
  · obtain ⟨l, ws, rfl, _⟩ := h
    rfl
  obtain ⟨l, ws, rfl, el, lw, hw, q⟩ := h
  have nd := scWords.nd
  refine ⟨_, (pss_one (ps_ret (pe_join pe_str (pe_lc (own := [("word", 1)]) (g := gName 1) (tt := tYes) rfl nd (pi_list (pv 0)) (blkOk_by (N := ["words", "word"]) (sc := defScope sWords) (by decide +kernel)) (fun _ _ _ _ _ => (pg_name (i := 1) nd rfl (.inl rfl))) (fun _ _ _ _ _ => pts_nil) (fun _ _ _ _ _ => (pe_op op_add_str (pv 1) pe_str)))))), ?_⟩
  have hs : ((" " : Str)).length = 1 := sign1.2.2.2.2.1
  refine ⟨⟨_, rfl⟩, _, rfl, l, rfl, ⟨_, SqL.of el⟩, fun D hD => lc_list (xs := ws.map V.str)
    (fun j H1 => H1 D = some (.lst (((ws.take j).map fun x : Str => x ++ (" " : Str)).map V.str)) ∧ Oth [D] H H1) ⟨upd_same, Oth.new hD⟩ (fun j H1 _ hW => ?_) (fun j x H1 hx hW => ?_) (fun H1 hW => ?_)⟩
  · exact SqL.of (hW.2.keep _ _ (by simp [ne_of_none el hD]) el)
  · obtain ⟨hD1, o1⟩ := hW
    rw [List.getElem?_map] at hx
    obtain ⟨i, gi, rfl⟩ := Option.map_eq_some_iff.mp hx
    have hi := hw i (List.mem_of_getElem? gi)
    have op : Oth [D] H1 (upd H1 D (.lst (((ws.take j).map fun x : Str => x ++ (" " : Str)).map V.str ++ [.str (i ++ " ")]))) := Oth.put (by simp) hD1
    refine ⟨rfl, _, rfl, _, _, rfl, rfl, szT (by rw [hs]; omega), _, hD1, Nat.lt_of_le_of_lt (by rw [List.length_map, List.length_map, List.length_take]; omega : (((ws.take j).map fun x : Str => x ++ (" " : Str)).map V.str).length ≤ 10) (by decide), ?_, o1.trans op⟩
    rw [upd_same, take_snoc gi, List.map_append, List.map_append]
    rfl
  · obtain ⟨hD1, o1⟩ := hW
    rw [List.length_map, List.take_length] at hD1
    have h1 := sum_map_le (fun x : Str => x.length) 101 (ws.map fun x : Str => x ++ (" " : Str)) (fun y hy => by
      obtain ⟨x, hx, rfl⟩ := List.mem_map.mp hy
      have := hw x hx
      rw [lenA, hs]; omega)
    rw [List.length_map] at h1
    refine ⟨_, D, _, rfl, rfl, .inl (SqL.of hD1), ?_, ?_⟩
    · have he : (("" : Str)).length = 0 := by rw [emptyS]; rfl
      rw [he, List.length_map]
      omega
    · rw [join_txt, join_cat, words_cat]
      exact q H1 (Oth.drop o1 hD)
end
abbrev sWPart : Stmt := topS 2
abbrev sWNodes : Stmt := topS 3
abbrev sWNode : Stmt := topS 4
abbrev sWChild : Stmt := topS 5
abbrev sWPage : Stmt := topS 1
theorem scWPart : FnScope ["k", "reads", "nodes"] ["k", "reads", "nodes"] (defScope sWPart) := ⟨rfl, rfl, rfl, by decide +kernel, rfl, by decide +kernel, by decide +kernel⟩
theorem scWNodes : FnScope ["nodes", "node"] ["nodes"] (defScope sWNodes) := ⟨rfl, rfl, rfl, by decide +kernel, rfl, by decide +kernel, by decide +kernel⟩
theorem scWNode : FnScope ["node", "characters", "path", "tag", "action", "inner", "component", "props", "reads", "part", "cell", "entered"] ["node"] (defScope sWNode) := ⟨rfl, rfl, rfl, by decide +kernel, rfl, by decide +kernel, by decide +kernel⟩
theorem scWChild : FnScope ["name", "component", "props", "reads", "inner"] ["name", "component", "props", "reads", "inner"] (defScope sWChild) := ⟨rfl, rfl, rfl, by decide +kernel, rfl, by decide +kernel, by decide +kernel⟩
theorem scWPage : FnScope ["page", "reads", "nodes"] ["page"] (defScope sWPage) := ⟨rfl, rfl, rfl, by decide +kernel, rfl, by decide +kernel, by decide +kernel⟩
section
variable {P : Program} {w : World} {K : PySem.W.Frag} {mg : Str → Option Value} {base : Heap}
theorem ok_wpart {f fN fU : Addr} {fd dN dU : FuncData} {k n : Nat} (F : Fun K "write_part" "write_part" sWPart f fd)
    (GWns : FnOk P w K mg base CX0 k fN dN ["nodes"] (spWNodes n)) (bWns : Binds K dN ["nodes"] []) (kWns : PySem.W.keepIn K (.ref fN) = true) (mWns : mg "_nodes" = some (.ref fN))
    (GWnu : FnOk P w K mg base CX0 k fU dU ["numbers"] spNums) (bWnu : Binds K dU ["numbers"] []) (kWnu : PySem.W.keepIn K (.ref fU) = true) (mWnu : mg "_numbers" = some (.ref fU)) (m_str : mg "str" = none) :
    FnOk P w K mg base CX0 (k + 1) f fd ["k", "reads", "nodes"] (spWPart n) := by
  refine F.ok scWPart (fun vs H Q E h => ?_) (fun cdv A outer s H vs Q E' hr h => ?_)
  · obtain ⟨kk, rs, ns, v1, v2, rfl, _⟩ := h
    rfl
  obtain ⟨kk, rs, ns, v1, v2, rfl, t1, t2, hk, sr, lr, fit, hc, hh, q⟩ := h
  have nd := scWPart.nd
  refine ⟨_, (pss_one (ps_ret (pe_op op_add_str (pe_op op_add_str (pe_op op_add_str (pe_op op_add_str (pe_op op_add_str (pe_op op_add_str pe_str (pe_callTy call_str_int (by rfl) m_str bo_str (pa_cons (pv 0) pa_nil))) pe_str) (pe_call GWnu hr rfl mWnu kWnu bWnu .nil pass0 (pa_cons (pv 1) pa_nil))) pe_str) (pe_call GWns hr rfl mWns kWns bWns .nil pass0 (pa_cons (pv 2) pa_nil))) pe_str))), ?_⟩
  have l1 := numS_nat hk
  have l2 := nums_len sr
  have l3 := Nd.wrs_len ns fit
  obtain ⟨_, _, _, _, s5, s6, s7, s8, _⟩ := sign1
  refine ⟨_, rfl, _, rfl, natAbs_nat hk, _, _, rfl, rfl, szT (by rw [s6]; show 1 + (numS (kk : Int)).length ≤ _; omega), ?_⟩
  show _
  refine ⟨"{" ++ numS (kk : Int), _, rfl, rfl, szT (by rw [lenA, s6, s7]; omega), _, rfl, rs, _, rfl, t1, sr, by omega, fun H1 o1 => ⟨_, _, rfl, rfl, szT (by rw [lenA, lenA, s6, s7]; omega), _, _, rfl, rfl, szT (by rw [lenA, lenA, lenA, s5, s6, s7]; omega), _, rfl, ns, _, rfl, t2.oth o1, fit, hc, hh, fun H2 o2 => ⟨_, _, rfl, rfl, szT (by rw [lenA, lenA, lenA, lenA, s5, s6, s7]; omega), _, _, rfl, rfl, szT (by rw [lenA, lenA, lenA, lenA, lenA, s5, s6, s7, s8]; omega), ?_⟩⟩⟩
  exact q H2 (o1.trans o2)
theorem ok_wnodes {f fO : Addr} {fd dO : FuncData} {k n : Nat} (F : Fun K "_nodes" "_nodes" sWNodes f fd)
    (GWnd : FnOk P w K mg base CX0 k fO dO ["node"] (spWNode n)) (bWnd : Binds K dO ["node"] []) (kWnd : PySem.W.keepIn K (.ref fO) = true) (mWnd : mg "_node" = some (.ref fO)) :
    FnOk P w K mg base CX0 (k + 1) f fd ["nodes"] (spWNodes (n + 1)) := by
  refine F.ok scWNodes (fun vs H Q E h => ?_) (fun cdv A outer s H vs Q E' hr h => ?_)
  · obtain ⟨ns, v, rfl, _⟩ := h
    rfl
  obtain ⟨ns, v, rfl, tv, fit, hc, hh, q⟩ := h
  have nd := scWNodes.nd
  refine ⟨_, (pss_one (ps_ret (pe_join pe_str (pe_lc (own := [("node", 1)]) (g := gName 1) (tt := tYes) rfl nd (pi_tup (pv 0)) (blkOk_by (N := ["nodes", "node"]) (sc := defScope sWNodes) (by decide +kernel)) (fun _ _ _ _ _ => (pg_name (i := 1) nd rfl (.inl rfl))) (fun _ _ _ _ _ => pts_nil) (fun _ _ _ _ _ => (pe_call GWnd hr rfl mWnd kWnd bWnd .nil pass0 (pa_cons (pv 1) pa_nil))))))), ?_⟩
  obtain ⟨a, xs, rfl, ea, pa⟩ := tv.inv
  have lx : xs.length = ns.length := by rw [(paired_get pa).1, Nd.toTs_map, List.length_map]
  have ln := ncnts_len ns
  refine ⟨⟨_, rfl⟩, _, rfl, a, rfl, ⟨_, SqT.of ea⟩, fun D hD => lc_tup (xs := xs)
    (fun j H1 => H1 D = some (.lst (((ns.take j).map Nd.wr).map V.str)) ∧ Oth [D] H H1) ⟨upd_same, Oth.new hD⟩ (fun j H1 _ hW => ?_) (fun j x H1 hx hW => ?_) (fun H1 hW => ?_)⟩
  · exact SqT.of (hW.2.tup _ _ ea)
  · obtain ⟨hD1, o1⟩ := hW
    have hj : j < ns.length := by rw [← lx]; exact (List.getElem?_eq_some_iff.mp hx).1
    obtain ⟨nd1, gn⟩ : ∃ nd, ns[j]? = some nd := ⟨ns[j], List.getElem?_eq_getElem hj⟩
    have tn : IsT H1 nd1.toT x := ((paired_get pa).2 j _ _ (by rw [Nd.toTs_map, List.getElem?_map, gn]; rfl) hx).oth o1
    have mem := List.mem_of_getElem? gn
    have hcn := ncnts_mem mem
    have hhn := hts_mem mem
    refine ⟨rfl, _, rfl, nd1, _, rfl, tn, fits_mem fit nd1 mem, by omega, by omega, fun H2 o2 => ?_⟩
    have hD2 := o2.keep D _ (by simp) hD1
    have op : Oth [D] H2 (upd H2 D (.lst (((ns.take j).map Nd.wr).map V.str ++ [.str nd1.wr]))) := Oth.put (by simp) hD2
    refine ⟨_, hD2, Nat.lt_of_le_of_lt (by rw [List.length_map, List.length_map, List.length_take]; omega : (((ns.take j).map Nd.wr).map V.str).length ≤ 70000) (by decide), ?_, o1.trans ((o2.mono (by simp)).trans op)⟩
    rw [upd_same, take_snoc gn, List.map_append, List.map_append]
    rfl
  · obtain ⟨hD1, o1⟩ := hW
    rw [lx, List.take_length] at hD1
    have h1 := wcat_len (ns.map Nd.wr)
    rw [← wrs_cat] at h1
    have h2 := Nd.wrs_len ns fit
    refine ⟨_, D, _, rfl, rfl, .inl (SqL.of hD1), ?_, ?_⟩
    · have he : (("" : Str)).length = 0 := by rw [emptyS]; rfl
      rw [he]
      omega
    · rw [join_txt, join_cat, ← wrs_cat]
      exact q H1 (Oth.drop o1 hD)
theorem ok_wchild {f fN fU fM fW fP : Addr} {fd dN dU dM dW dP : FuncData} {k n : Nat} (F : Fun K "_child" "_child" sWChild f fd)
    (GWns : FnOk P w K mg base CX0 k fN dN ["nodes"] (spWNodes n)) (bWns : Binds K dN ["nodes"] []) (kWns : PySem.W.keepIn K (.ref fN) = true) (mWns : mg "_nodes" = some (.ref fN))
    (GWnu : FnOk P w K mg base CX0 k fU dU ["numbers"] spNums) (bWnu : Binds K dU ["numbers"] []) (kWnu : PySem.W.keepIn K (.ref fU) = true) (mWnu : mg "_numbers" = some (.ref fU))
    (GWnm : FnOk P w K mg base CX0 k fM dM ["name"] spWName) (bWnm : Binds K dM ["name"] []) (kWnm : PySem.W.keepIn K (.ref fM) = true) (mWnm : mg "_name" = some (.ref fM))
    (GWwd : FnOk P w K mg base CX0 k fW dW ["words"] spWords) (bWwd : Binds K dW ["words"] []) (kWwd : PySem.W.keepIn K (.ref fW) = true) (mWwd : mg "_words" = some (.ref fW))
    (GWpt : FnOk P w K mg base CX0 k fP dP ["k", "reads", "nodes"] (spWPart n)) (bWpt : Binds K dP ["k", "reads", "nodes"] []) (kWpt : PySem.W.keepIn K (.ref fP) = true) (mWpt : mg "write_part" = some (.ref fP)) (m_str : mg "str" = none) :
    FnOk P w K mg base CX0 (k + 1) f fd ["name", "component", "props", "reads", "inner"] (spWChild n) := by
  refine F.ok scWChild (fun vs H Q E h => ?_) (fun cdv A outer s H vs Q E' hr h => ?_)
  · obtain ⟨nm, c, ps, rs, ns, v0, v1, v2, v3, rfl, _⟩ := h
    rfl
  obtain ⟨nm, c, ps, rs, ns, v0, v1, v2, v3, rfl, t0, t1, t2, t3, fn, hc0, sp, lp, sr, lr, fit, hc, hh, q⟩ := h
  have nd := scWChild.nd
  refine ⟨_, (pss_cons (ps_if (pt_cmpR op_eq (pe_ix ix_tup (pv 0) pe_int (fun _ _ => rfl)) pe_str (nomark _))
  (pss_one (ps_ret (pe_call GWpt hr rfl mWpt kWpt bWpt .nil pass0 (pa_cons (pe_ix ix_tup (pv 0) pe_int (fun _ _ => rfl)) (pa_cons (pv 3) (pa_cons (pv 4) pa_nil))))))
  pss_nil)
  (pss_one (ps_ret (pe_op op_add_str (pe_op op_add_str (pe_op op_add_str pe_str (pe_call GWwd hr rfl mWwd kWwd bWwd .nil pass0 (pa_cons (pe_lst (pa_cons (pe_call GWnm hr rfl mWnm kWnm bWnm .nil pass0 (pa_cons (pv 0) pa_nil)) (pa_cons (pe_callTy call_str_int (by rfl) m_str bo_str (pa_cons (pv 1) pa_nil)) (pa_cons (pe_call GWnu hr rfl mWnu kWnu bWnu .nil pass0 (pa_cons (pv 2) pa_nil)) (pa_cons (pe_call GWnu hr rfl mWnu kWnu bWnu .nil pass0 (pa_cons (pv 3) pa_nil)) pa_nil))))) pa_nil))) (pe_call GWns hr rfl mWns kWns bWns .nil pass0 (pa_cons (pv 4) pa_nil))) pe_str)))), ?_⟩
  have l0 := name_len fn
  have l1 := numS_nat hc0
  have l2 := nums_len sp
  have l3 := nums_len sr
  have l4 := Nd.wrs_len ns fit
  obtain ⟨_, _, _, _, s5, s6, s7, s8, s9, s10, _⟩ := sign1
  have two : (∃ (a : Addr) (tg : Str) (xs : List V), v0 = .ref a ∧ H a = some (.tup (.str tg :: xs)) ∧ tg ≠ "part" ∧ nm.isPart = false ∧ wChild nm c ps rs (Nd.wrs ns) = "[" ++ wWords [wName nm, numS (c : Int), wNums ps, wNums rs] ++ Nd.wrs ns ++ "]") ∨ ∃ kk, nm = .part kk := by
    cases nm with
    | «at» t i =>
      obtain ⟨a, x1, x2, x3, rfl, ea, p1, _⟩ := IsT.inv3 t0
      obtain rfl := p1.of_str
      exact .inl ⟨a, _, _, rfl, ea, by decide +kernel, rfl, rfl⟩
    | key t v =>
      obtain ⟨a, x1, x2, x3, rfl, ea, p1, _⟩ := IsT.inv3 t0
      obtain rfl := p1.of_str
      exact .inl ⟨a, _, _, rfl, ea, by decide +kernel, rfl, rfl⟩
    | part kk => exact .inr ⟨kk, rfl⟩
  rcases two with ⟨a, tg, xs, rfl, ea, hne, np, ew⟩ | ⟨kk, rfl⟩
  · refine ⟨_, rfl, a, _, _, .str tg, rfl, rfl, SqT.of ea, at0, rfl, _, rfl, ite2 (fun cc => ?_) (fun cc => ?_)⟩
    · have := of_decide_eq_true cc
      injection this with this
      exact absurd this hne
    · refine ⟨_, rfl, nm, _, rfl, t0, fn, np, fun H1 o1 => ⟨_, rfl, _, rfl, natAbs_nat hc0, _, rfl, ps, _, rfl, t1.oth o1, sp, by omega, fun H2 o2 => ⟨_, rfl, rs, _, rfl, (t2.oth o1).oth o2, sr, by omega, fun H3 o3 => ⟨sz, fun l hl => ?_⟩⟩⟩⟩
      have ol := Oth.new (S := []) (o := .lst [.str (wName nm), .str (numS (c : Int)), .str (wNums ps), .str (wNums rs)]) hl
      refine ⟨l, [wName nm, numS (c : Int), wNums ps, wNums rs], rfl, upd_same, by simp, (by simp only [List.mem_cons, List.not_mem_nil, or_false, forall_eq_or_imp, forall_eq]; omega), fun H4 o4 => ?_⟩
      have o14 := o1.trans (o2.trans (o3.trans (ol.trans o4)))
      have lw : (wWords [wName nm, numS (c : Int), wNums ps, wNums rs]).length ≤ 1000 := by
        have e0 : Str.empty.length = 0 := rfl
        simp only [wWords, lenA, s5, e0]; omega
      refine ⟨_, _, rfl, rfl, szT (by rw [s9]; omega), _, rfl, ns, _, rfl, t3.oth o14, fit, hc, hh, fun H5 o5 => ⟨_, _, rfl, rfl, szT (by rw [lenA, s9]; omega), _, _, rfl, rfl, szT (by rw [lenA, lenA, s9, s10]; omega), ?_⟩⟩
      rw [← ew]
      exact q H5 (o14.trans o5)
  · obtain ⟨a, x1, x2, rfl, ea, p1, p2⟩ := IsT.inv2 t0
    obtain rfl := p1.of_str
    obtain rfl := p2.of_int
    refine ⟨_, rfl, a, _, _, .str "part", rfl, rfl, SqT.of ea, at0, rfl, _, rfl, ite2 (fun cc => ?_) (fun cc => ?_)⟩
    · exact ⟨_, rfl, a, _, _, _, rfl, rfl, SqT.of ea, at1, _, rfl, _, rfl, kk, rs, ns, _, _, rfl, t2, t3, fn, sr, lr, fit, hc, hh, fun H1 o1 => q H1 o1⟩
    · exact absurd (decide_eq_true rfl) cc
theorem ok_wnode {f fN fM fA fW fC : Addr} {fd dN dM dA dW dC : FuncData} {k n : Nat} (F : Fun K "_node" "_node" sWNode f fd)
    (GWns : FnOk P w K mg base CX0 k fN dN ["nodes"] (spWNodes n)) (bWns : Binds K dN ["nodes"] []) (kWns : PySem.W.keepIn K (.ref fN) = true) (mWns : mg "_nodes" = some (.ref fN))
    (GWnm : FnOk P w K mg base CX0 k fM dM ["name"] spWName) (bWnm : Binds K dM ["name"] []) (kWnm : PySem.W.keepIn K (.ref fM) = true) (mWnm : mg "_name" = some (.ref fM))
    (GWac : FnOk P w K mg base CX0 k fA dA ["action"] spWAct) (bWac : Binds K dA ["action"] []) (kWac : PySem.W.keepIn K (.ref fA) = true) (mWac : mg "_action" = some (.ref fA))
    (GWwd : FnOk P w K mg base CX0 k fW dW ["words"] spWords) (bWwd : Binds K dW ["words"] []) (kWwd : PySem.W.keepIn K (.ref fW) = true) (mWwd : mg "_words" = some (.ref fW))
    (GWch : FnOk P w K mg base CX0 k fC dC ["name", "component", "props", "reads", "inner"] (spWChild n)) (bWch : Binds K dC ["name", "component", "props", "reads", "inner"] []) (kWch : PySem.W.keepIn K (.ref fC) = true) (mWch : mg "_child" = some (.ref fC)) (m_str : mg "str" = none) :
    FnOk P w K mg base CX0 (k + 1) f fd ["node"] (spWNode n) := by
  refine F.ok scWNode (fun vs H Q E h => ?_) (fun cdv A outer s H vs Q E' hr h => ?_)
  · obtain ⟨nd1, v, rfl, _⟩ := h
    rfl
  obtain ⟨nd1, v, rfl, tn, fit, hc, hh, q⟩ := h
  have nd := scWNode.nd
  refine ⟨_, (pss_one (ps_match (pv 0) (pcs_cons nd (pp_seq rfl (pps_cons' pp_str (pps_cons' pp_any (pps_cons' (pp_name 1) pps_nil')))) (pss_one (ps_ret (pe_op op_add_str (pe_op op_add_str pe_str (pv 1)) pe_str)))
  (pcs_cons nd (pp_seq rfl (pps_cons' pp_str (pps_cons' (pp_name 2) (pps_cons' (pp_name 3) (pps_cons' pp_any (pps_cons' (pp_name 4) (pps_cons' (pp_name 5) pps_nil'))))))) (pss_one (ps_ret (pe_op op_add_str (pe_op op_add_str (pe_op op_add_str pe_str (pe_call GWwd hr rfl mWwd kWwd bWwd .nil pass0 (pa_cons (pe_lst (pa_cons (pe_call GWnm hr rfl mWnm kWnm bWnm .nil pass0 (pa_cons (pe_ix ix_tup (pv 2) (pe_un un_neg pe_int) (fun _ _ => rfl)) pa_nil)) (pa_cons (pv 3) (pa_cons (pe_call GWac hr rfl mWac kWac bWac .nil pass0 (pa_cons (pv 4) pa_nil)) pa_nil)))) pa_nil))) (pe_call GWns hr rfl mWns kWns bWns .nil pass0 (pa_cons (pv 5) pa_nil))) pe_str)))
  (pcs_cons nd (pp_seq rfl (pps_cons' pp_str (pps_cons' (pp_name 2) (pps_cons' (pp_name 6) (pps_cons' (pp_name 7) (pps_cons' (pp_name 8) (pps_cons' (pp_name 5) pps_nil'))))))) (pss_one (ps_ret (pe_call GWch hr rfl mWch kWch bWch .nil pass0 (pa_cons (pe_ix ix_tup (pv 2) (pe_un un_neg pe_int) (fun _ _ => rfl)) (pa_cons (pv 6) (pa_cons (pv 7) (pa_cons (pv 8) (pa_cons (pv 5) pa_nil))))))))
  (pcs_cons nd (pp_seq rfl (pps_cons' pp_str (pps_cons' pp_any (pps_cons' (pp_name 9) pps_nil')))) (pss_one (ps_ret (pe_op op_add_str (pe_op op_add_str pe_str (pe_callTy call_str_int (by rfl) m_str bo_str (pa_cons (pv 9) pa_nil))) pe_str)))
  (pcs_cons nd (pp_seq rfl (pps_cons' pp_str (pps_cons' (pp_name 2) (pps_cons' (pp_name 3) (pps_cons' pp_any (pps_cons' (pp_name 10) (pps_cons' (pp_name 11) pps_nil'))))))) (pss_one (ps_ret (pe_joined (.cons pe_str (.cons (pe_fmt (pe_call GWnm hr rfl mWnm kWnm bWnm .nil pass0 (pa_cons (pe_ix ix_tup (pv 2) (pe_un un_neg pe_int) (fun _ _ => rfl)) pa_nil))) (.cons pe_str (.cons (pe_fmt (pv 3)) (.cons pe_str (.cons (pe_fmt (pv 10)) (.cons pe_str (.cons (pe_fmt (pv 11)) (.cons pe_str .nil))))))))))))
  pcs_nil))))))), ?_⟩
  have lall := Nd.wr_len nd1 fit
  obtain ⟨_, _, _, _, s5, s6, s7, s8, s9, s10, s11, s12, s13, s14, s15, _⟩ := sign1
  cases nd1 with
  | text p s =>
    obtain ⟨b, _, v1, v2, rfl, eb, p0, p1, p2⟩ := IsT.inv3 tn
    obtain rfl := p0.of_str
    obtain rfl := p2.of_str
    have fit : s.length ≤ 3 := fit.2
    refine ⟨_, rfl, case_hit (SqT.of eb) rfl ⟨_, _, rfl, _, _, rfl, ?_⟩⟩
    exact ⟨_, rfl, _, _, rfl, rfl, szT (by rw [s15]; omega), _, _, rfl, rfl, szT (by rw [lenA, s15]; omega), q H Oth.refl⟩
  | box p tag o act inner =>
    obtain ⟨b, _, v1, v2, v3, v4, v5, rfl, eb, p0, p1, p2, p3, p4, p5⟩ := IsT.inv6 tn
    obtain rfl := p0.of_str
    obtain rfl := p2.of_str
    simp only [Nd.ht] at hh
    simp only [Nd.cnt] at hc
    obtain ⟨f1, f2, f3, f4, f5, f6⟩ := fit
    obtain ⟨ap, xp, x, rfl, ep, tl'⟩ := path_last p1 f1
    have l0 := name_len f2
    have l1 := act_len f5
    have l2 := Nd.wrs_len inner f6
    refine ⟨_, rfl, case_skip (SqT.of eb) (by decide) (case_hit (SqT.of eb) rfl ⟨_, _, rfl, _, _, rfl, _, _, rfl, _, _, rfl, _, _, rfl, ?_⟩)⟩
    refine ⟨_, rfl, _, rfl, ap, _, _, _, rfl, rfl, SqT.of ep, atI_last, lastN p, _, rfl, tl', f2, f3, fun H1 o1 => ⟨_, rfl, _, rfl, act, _, rfl, p4.oth o1, f5, sz, fun l hl => ?_⟩⟩
    have ol := Oth.new (S := []) (o := .lst [.str (wName (lastN p)), .str tag, .str (wAct act)]) hl
    refine ⟨l, [wName (lastN p), tag, wAct act], rfl, upd_same, by simp, (by simp only [List.mem_cons, List.not_mem_nil, or_false, forall_eq_or_imp, forall_eq]; omega), fun H4 o4 => ?_⟩
    have o14 := o1.trans (ol.trans o4)
    have lw : (wWords [wName (lastN p), tag, wAct act]).length ≤ 1000 := by
      have e0 : Str.empty.length = 0 := rfl
      simp only [wWords, lenA, s5, e0]; omega
    refine ⟨_, _, rfl, rfl, szT (by rw [s11]; omega), _, rfl, inner, _, rfl, p5.oth o14, f6, by omega, by omega, fun H5 o5 => ⟨_, _, rfl, rfl, szT (by rw [lenA, s11]; omega), _, _, rfl, rfl, szT (by rw [lenA, lenA, s11, s12]; omega), ?_⟩⟩
    exact q H5 (o14.trans o5)
  | child p c ps rs inner =>
    obtain ⟨b, _, v1, v2, v3, v4, v5, rfl, eb, p0, p1, p2, p3, p4, p5⟩ := IsT.inv6 tn
    obtain rfl := p0.of_str
    obtain rfl := p2.of_int
    simp only [Nd.ht] at hh
    simp only [Nd.cnt] at hc
    obtain ⟨f1, f2, f3, f4, f5, f6, f7, f8⟩ := fit
    obtain ⟨ap, xp, x, rfl, ep, tl'⟩ := path_last p1 f1
    refine ⟨_, rfl, case_skip (SqT.of eb) (by decide) (case_skip (SqT.of eb) (by decide) (case_hit (SqT.of eb) rfl ⟨_, _, rfl, _, _, rfl, _, _, rfl, _, _, rfl, _, _, rfl, ?_⟩))⟩
    exact ⟨_, rfl, _, rfl, ap, _, _, _, rfl, rfl, SqT.of ep, atI_last, _, rfl, _, rfl, _, rfl, _, rfl, lastN p, c, ps, rs, inner, _, _, _, _, rfl, tl', p3, p4, p5, f2, f3, f4, f5, f6, f7, f8, by omega, by omega, q⟩
  | place p kk =>
    obtain ⟨b, _, v1, v2, rfl, eb, p0, p1, p2⟩ := IsT.inv3 tn
    obtain rfl := p0.of_str
    obtain rfl := p2.of_int
    have l1 := numS_nat fit.2
    refine ⟨_, rfl, case_skip (SqT.of eb) (by decide) (case_skip (SqT.of eb) (by decide) (case_skip (SqT.of eb) (by decide) (case_hit (SqT.of eb) rfl ⟨_, _, rfl, _, _, rfl, ?_⟩)))⟩
    exact ⟨_, rfl, _, rfl, natAbs_nat fit.2, _, _, rfl, rfl, szT (by rw [s6]; show 1 + (numS (kk : Int)).length ≤ _; omega), "{" ++ numS (kk : Int), _, rfl, rfl, szT (by rw [lenA, s6, s8]; omega), q H Oth.refl⟩
  | input p tag o c v =>
    obtain ⟨b, _, v1, v2, v3, v4, v5, rfl, eb, p0, p1, p2, p3, p4, p5⟩ := IsT.inv6 tn
    obtain rfl := p0.of_str
    obtain rfl := p2.of_str
    obtain rfl := p4.of_int
    obtain rfl := p5.of_int
    obtain ⟨f1, f2, f3, f4, f5, f6⟩ := fit
    obtain ⟨ap, xp, x, rfl, ep, tl'⟩ := path_last p1 f1
    have l0 := name_len f2
    have l1 := numS_nat f5
    have l2 := numS_len f6
    refine ⟨_, rfl, case_skip (SqT.of eb) (by decide) (case_skip (SqT.of eb) (by decide) (case_skip (SqT.of eb) (by decide) (case_skip (SqT.of eb) (by decide) (case_hit (SqT.of eb) rfl ⟨_, _, rfl, _, _, rfl, _, _, rfl, _, _, rfl, _, _, rfl, ?_⟩))))⟩
    refine ⟨_, rfl, by rw [strE, s13]; exact sz, _, rfl, _, rfl, ap, _, _, _, rfl, rfl, SqT.of ep, atI_last, lastN p, _, rfl, tl', f2, f3, fun H1 o1 => .inl ⟨_, rfl, szT (by omega), _, rfl, szT (by rw [strE, lenA, s13]; omega), _, rfl, szT (by rw [strE, lenA, lenA, s13, s5]; omega), _, rfl, .inl ⟨_, rfl, szT (by omega), _, rfl, szT (by rw [strE, lenA, lenA, lenA, s13, s5]; omega), _, rfl, szT (by rw [strE, lenA, lenA, lenA, lenA, s13, s5]; omega), _, rfl, .inr ⟨_, rfl, natAbs_nat f5, numS (c : Int), rfl, szT (by rw [strE, lenA, lenA, lenA, lenA, lenA, s13, s5]; omega), _, rfl, szT (by rw [strE, lenA, lenA, lenA, lenA, lenA, lenA, s13, s5]; omega), _, rfl, .inr ⟨_, rfl, natAbs_log f6, numS v, rfl, szT (by rw [strE, lenA, lenA, lenA, lenA, lenA, lenA, lenA, s13, s5]; omega), _, rfl, szT (by rw [strE, lenA, lenA, lenA, lenA, lenA, lenA, lenA, lenA, s13, s5, s14]; omega), ?_⟩⟩⟩⟩⟩
    rw [strE]
    exact q H1 o1
theorem ok_wpage {f fN fU : Addr} {fd dN dU : FuncData} {k n : Nat} (F : Fun K "write_page" "write_page" sWPage f fd)
    (GWns : FnOk P w K mg base CX0 k fN dN ["nodes"] (spWNodes n)) (bWns : Binds K dN ["nodes"] []) (kWns : PySem.W.keepIn K (.ref fN) = true) (mWns : mg "_nodes" = some (.ref fN))
    (GWnu : FnOk P w K mg base CX0 k fU dU ["numbers"] spNums) (bWnu : Binds K dU ["numbers"] []) (kWnu : PySem.W.keepIn K (.ref fU) = true) (mWnu : mg "_numbers" = some (.ref fU)) :
    FnOk P w K mg base CX0 (k + 1) f fd ["page"] (spWPage n) := by
  refine F.ok scWPage (fun vs H Q E h => ?_) (fun cdv A outer s H vs Q E' hr h => ?_)
  · obtain ⟨rs, ns, v, rfl, _⟩ := h
    rfl
  obtain ⟨rs, ns, v, rfl, tv, sr, lr, fit, hc, hh, q⟩ := h
  have nd := scWPage.nd
  refine ⟨_, (pss_cons (ps_asg (pv 0) (pg_tup rfl (pgs_cons (pg_name (i := 1) nd rfl (.inl rfl)) (pgs_cons (pg_name (i := 2) nd rfl (.inl rfl)) pgs_nil))))
  (pss_one (ps_ret (pe_op op_add_str (pe_op op_add_str (pe_op op_add_str (pe_call GWnu hr rfl mWnu kWnu bWnu .nil pass0 (pa_cons (pv 1) pa_nil)) pe_str) (pe_call GWns hr rfl mWns kWns bWns .nil pass0 (pa_cons (pv 2) pa_nil))) pe_str)))), ?_⟩
  have l2 := nums_len sr
  have l3 := Nd.wrs_len ns fit
  obtain ⟨_, _, _, _, s5, _, _, _, _, _, _, _, _, _, _, s16⟩ := sign1
  obtain ⟨a, v1, v2, rfl, ea, t1, t2⟩ := IsT.inv2 tv
  refine ⟨_, rfl, a, _, rfl, SqT.of ea, rfl, _, _, rfl, _, _, rfl, rfl, ?_⟩
  exact ⟨_, rfl, rs, _, rfl, t1, sr, by omega, fun H1 o1 => ⟨_, _, rfl, rfl, szT (by rw [s5]; omega), _, rfl, ns, _, rfl, t2.oth o1, fit, hc, hh, fun H2 o2 => ⟨_, _, rfl, rfl, szT (by rw [lenA, s5]; omega), _, _, rfl, rfl, szT (by rw [lenA, lenA, s5, s16]; omega), q H2 (o1.trans o2)⟩⟩⟩
end
abbrev sSInit : Stmt := inClass (topS 35) 0
abbrev sResolve : Stmt := inClass (topS 35) 1
abbrev sRender : Stmt := inClass (topS 35) 2
abbrev sWas : Stmt := inClass (topS 35) 3
abbrev sSend : Stmt := inClass (topS 35) 4
abbrev sPText : Stmt := topS 36
theorem scSInit : FnScope ["self", "program"] ["self", "program"] (defScope sSInit) := ⟨rfl, rfl, rfl, by decide +kernel, rfl, by decide +kernel, by decide +kernel⟩
theorem scResolve : FnScope ["self", "k", "_", "nodes"] ["self", "k"] (defScope sResolve) := ⟨rfl, rfl, rfl, by decide +kernel, rfl, by decide +kernel, by decide +kernel⟩
theorem scRender : FnScope ["self"] ["self"] (defScope sRender) := ⟨rfl, rfl, rfl, by decide +kernel, rfl, by decide +kernel, by decide +kernel⟩
theorem scWas : FnScope ["self"] ["self"] (defScope sWas) := ⟨rfl, rfl, rfl, by decide +kernel, rfl, by decide +kernel, by decide +kernel⟩
theorem scSend : FnScope ["self", "text"] ["self", "text"] (defScope sSend) := ⟨rfl, rfl, rfl, by decide +kernel, rfl, by decide +kernel, by decide +kernel⟩
theorem scPText : FnScope ["nodes", "part", "node", "text"] ["nodes", "part"] (defScope sPText) := ⟨rfl, rfl, rfl, by decide +kernel, rfl, by decide +kernel, by decide +kernel⟩
section
variable {P : Program} {w : World} {K : PySem.W.Frag} {mg : Str → Option Value} {base : Heap}
theorem ok_sinit {f C : Addr} {fd : FuncData} (F : Fun K "__init__" "Server.__init__" sSInit f fd) (TC : Cls K C) (n1 : NoAttr K C "program") (n2 : NoAttr K C "sent") (n3 : NoAttr K C "ready") :
    FnOk P w K mg base CX0 1 f fd ["self", "program"] (spSInit C) := by
  refine F.ok scSInit (fun vs H Q E h => ?_) (fun cdv A outer s' H vs Q E' hr h => ?_)
  · obtain ⟨s, dx, g, vp, rfl, _⟩ := h
    rfl
  obtain ⟨s, dx, g, vp, rfl, hs, tp, q⟩ := h
  have nd := scSInit.nd
  refine ⟨_, (pss_cons (ps_fld (pv 0) (pv 1) rfl)
  (pss_cons (ps_fld (pv 0) pe_str rfl)
  (pss_one (ps_fld (pv 0) (pe_tup pa_nil) rfl)))), ?_⟩
  refine ⟨_, rfl, _, rfl, s, C, dx, [], rfl, hs, TC, n1, (by decide), ?_⟩
  rw [putF_nil]
  have i1 : Oth [s] H (upd H s (.ins C dx [("program", vp)])) := Oth.ins (List.mem_singleton.mpr rfl) hs
  refine ⟨_, rfl, s, C, dx, _, rfl, upd_same, TC, n2, (by show 1 < 1000; decide), ?_⟩
  rw [putF_tl ne_ps, putF_nil]
  have i2 : Oth [s] _ (upd (upd H s (.ins C dx [("program", vp)])) s (.ins C dx [("program", vp), ("sent", .str "")])) := Oth.ins (List.mem_singleton.mpr rfl) upd_same
  refine ⟨sz, fun t ht => ?_⟩
  have i3 := Oth.new (S := [s]) (o := .tup []) ht
  have e2 : (upd (upd H s (.ins C dx [("program", vp)])) s (.ins C dx [("program", vp), ("sent", .str "")])) s = some (.ins C dx [("program", vp), ("sent", .str "")]) := upd_same
  have hst : s ≠ t := ne_of_none e2 ht
  have e3 : (upd (upd (upd H s (.ins C dx [("program", vp)])) s (.ins C dx [("program", vp), ("sent", .str "")])) t (.tup [])) s = some (.ins C dx [("program", vp), ("sent", .str "")]) := by rw [upd_ne hst]; exact e2
  refine ⟨_, rfl, s, C, dx, _, rfl, e3, TC, n3, (by show 2 < 1000; decide), ?_⟩
  rw [putF_tl ne_pr, putF_tl ne_sr, putF_nil]
  have i4 : Oth [s] _ (upd (upd (upd (upd H s (.ins C dx [("program", vp)])) s (.ins C dx [("program", vp), ("sent", .str "")])) t (.tup [])) s (.ins C dx [("program", vp), ("sent", .str ""), ("ready", .ref t)])) := Oth.ins (List.mem_singleton.mpr rfl) e3
  refine q _ ⟨dx, vp, .ref t, ?_, tp.oth (i1.trans (i2.trans (i3.trans i4))), .mk (i4.tup _ _ upd_same) .nil⟩ (i1.trans (i2.trans (i3.trans i4)))
  rw [upd_same, emptyS]
  rfl
theorem ok_was {f C : Addr} {fd : FuncData} {k : Nat} (F : Fun K "was_rendered" "Server.was_rendered" sWas f fd) (TC : Cls K C) (n2 : NoAttr K C "sent") :
    FnOk P w K mg base CX0 (k + 1) f fd ["self"] (spWas C) := by
  refine F.ok scWas (fun vs H Q E h => ?_) (fun cdv A outer s' H vs Q E' hr h => ?_)
  · obtain ⟨s, g, sent, ready, rfl, _⟩ := h
    rfl
  obtain ⟨s, g, sent, ready, rfl, hs, q⟩ := h
  have nd := scWas.nd
  refine ⟨_, (pss_one (ps_ret (pe_cmpR op_ne (pe_fld (pv 0) rfl) pe_str (nomark _)))), ?_⟩
  obtain ⟨dx, vp, vr, e, tp, tr⟩ := hs.ob
  refine ⟨_, rfl, s, C, dx, _, _, rfl, e, TC, n2, f_sent, rfl, ?_⟩
  have : (!decide (V.str sent = V.str "")) = decide (sent ≠ Str.empty) := by
    rw [emptyS, ← decide_not]
    exact decide_eq_decide.mpr ⟨fun a b => a (by rw [b]), fun a b => a (by injection b)⟩
  rw [this]
  exact q
theorem ok_send {f C : Addr} {fd : FuncData} {k : Nat} (F : Fun K "send" "Server.send" sSend f fd) (TC : Cls K C) (n2 : NoAttr K C "sent") :
    FnOk P w K mg base CX0 (k + 1) f fd ["self", "text"] (spSend C) := by
  refine F.ok scSend (fun vs H Q E h => ?_) (fun cdv A outer s' H vs Q E' hr h => ?_)
  · obtain ⟨s, g, sent, t, ready, rfl, _⟩ := h
    rfl
  obtain ⟨s, g, sent, t, ready, rfl, hs, hz, q⟩ := h
  have nd := scSend.nd
  refine ⟨_, (pss_cons (ps_fldaug (pv 0) (pv 1) in_addS)
  (pss_one (ps_ret (pv 1)))), ?_⟩
  obtain ⟨dx, vp, vr, e, tp, tr⟩ := hs.ob
  refine ⟨_, rfl, s, C, dx, _, _, rfl, e, TC, n2, f_sent, _, rfl, _, _, rfl, rfl, hz, dx, _, e, (by show 3 < 1000; decide), ?_⟩
  rw [put_sent]
  have i1 : Oth [s] H (upd H s (.ins C dx (srvF vp (sent ++ t) vr))) := Oth.ins (List.mem_singleton.mpr rfl) e
  exact ⟨_, rfl, q _ ⟨dx, vp, vr, upd_same, tp.oth i1, tr.oth i1⟩ i1⟩
theorem ok_ptext {f fP : Addr} {fd dP : FuncData} {k n : Nat} (F : Fun K "_part_text" "_part_text" sPText f fd)
    (GWtx : FnOk P w K mg base CX0 k f fd ["nodes", "part"] (spPText n)) (bWtx : Binds K fd ["nodes", "part"] []) (kWtx : PySem.W.keepIn K (.ref f) = true) (mWtx : mg "_part_text" = some (.ref f))
    (GWpt : FnOk P w K mg base CX0 k fP dP ["k", "reads", "nodes"] (spWPart n)) (bWpt : Binds K dP ["k", "reads", "nodes"] []) (kWpt : PySem.W.keepIn K (.ref fP) = true) (mWpt : mg "write_part" = some (.ref fP)) :
    FnOk P w K mg base CX0 (k + 1) f fd ["nodes", "part"] (spPText (n + 1)) := by
  refine F.ok scPText (fun vs H Q E h => ?_) (fun cdv A outer s H vs Q E' hr h => ?_)
  · obtain ⟨kk, ns, v, rfl, _⟩ := h
    rfl
  obtain ⟨kk, ns, v, rfl, tv, hk, fit, hc, hh, q⟩ := h
  have nd := scPText.nd
  refine ⟨_, (pss_cons (ps_for PassesOwn.never rfl (pi_tup (pv 0)) (pg_name (i := 2) nd rfl (.inl rfl))
  (pss_cons (ps_if (PW.pt (pw_and (pt_cmpR op_eq (pe_ix ix_tup (pv 2) pe_int (fun _ _ => rfl)) pe_str (nomark _)) (pw_and1 (pt_cmpR (op_eqT (Room.units65 hr)) (pe_ix ix_tup (pe_ix ix_tup (pv 2) pe_int (fun _ _ => rfl)) (pe_un un_neg pe_int) (fun _ _ => rfl)) (pe_tup (pa_cons pe_str (pa_cons (pv 1) pa_nil))) (nomark _)))))
  (pss_one (ps_ret (pe_call GWpt hr rfl mWpt kWpt bWpt .nil pass0 (pa_cons (pv 1) (pa_cons (pe_ix ix_tup (pv 2) pe_int (fun _ _ => rfl)) (pa_cons (pe_ix ix_tup (pv 2) pe_int (fun _ _ => rfl)) pa_nil))))))
  pss_nil)
  (pss_one (ps_if (pt_cmpR op_eq (pe_ix ix_tup (pv 2) pe_int (fun _ _ => rfl)) pe_str (nomark _))
  (pss_cons (ps_set (i := 3) nd rfl (.inl rfl) (pe_call GWtx hr rfl mWtx kWtx bWtx .nil pass0 (pa_cons (pe_ix ix_tup (pv 2) pe_int (fun _ _ => rfl)) (pa_cons (pv 1) pa_nil))))
  (pss_one (ps_if (pt_cmpR op_ne (pv 3) pe_str (nomark _))
  (pss_one (ps_ret (pv 3)))
  pss_nil)))
  pss_nil))))
  (pss_one (ps_ret pe_str))), ?_⟩
  obtain ⟨a, xs, rfl, ea, pa⟩ := tv.inv
  have lx : xs.length = ns.length := by rw [(paired_get pa).1, Nd.toTs_map, List.length_map]
  refine ⟨_, rfl, a, rfl, ⟨xs, SqT.of ea⟩, for_tup (xs := xs)
    (fun j σ H1 => ∃ (x2 x3 : Option V), σ = [some (.ref a), some (.int (kk : Int)), x2, x3] ∧ Nd.pfs kk (ns.take j) = none ∧ Oth [] H H1)
    ⟨none, none, rfl, rfl, Oth.refl⟩ (fun j σ H1 _ hW => ?_) (fun j x σ H1 hx hW => ?_) (fun σ H1 hW => ?_)⟩
  · obtain ⟨_, _, _, _, o1⟩ := hW
    exact SqT.of (o1.tup _ _ ea)
  · obtain ⟨x2, x3, rfl, no, o1⟩ := hW
    have hj : j < ns.length := by rw [← lx]; exact (List.getElem?_eq_some_iff.mp hx).1
    obtain ⟨nd1, gn⟩ : ∃ nd, ns[j]? = some nd := ⟨ns[j], List.getElem?_eq_getElem hj⟩
    have tn : IsT H1 nd1.toT x := ((paired_get pa).2 j _ _ (by rw [Nd.toTs_map, List.getElem?_map, gn]; rfl) hx).oth o1
    have mem := List.mem_of_getElem? gn
    have hcn := ncnts_mem mem
    have hhn := hts_mem mem
    have fn := fits_mem fit nd1 mem
    have split : ns = ns.take j ++ (nd1 :: ns.drop (j + 1)) := by
      have e3 : nd1 = ns[j] := by rw [List.getElem?_eq_getElem hj] at gn; exact (Option.some.inj gn).symm
      rw [e3, ← List.drop_eq_getElem_cons hj, List.take_append_drop]
    have found : ∀ m, nd1.pf kk = some m → ptxt kk ns = m.wr := fun m e => by
      unfold ptxt
      rw [split, pfs_app, no, Nd.pfs, e]
      rfl
    have further : nd1.pf kk = none → Nd.pfs kk (ns.take (j + 1)) = none := fun e => by
      rw [take_snoc gn, pfs_app, no, Nd.pfs, e]
      rfl
    obtain ⟨b, vp, vw, r, rfl, eb, pp, _⟩ := Nd.kindAt3 nd1 tn
    -- a child
    by_cases kc : nd1.kind = ("child" : Str)
    · cases nd1 with
      | child p c ps rs inner =>
        obtain ⟨b', y0, y1, y2, y3, y4, y5, e', eb', p0, p1, p2, p3, p4, p5⟩ := IsT.inv6 tn
        cases e'
        obtain rfl := p0.of_str
        simp only [Nd.ht] at hhn
        simp only [Nd.cnt] at hcn
        obtain ⟨f1, f2, f3, f4, f5, f6, f7, f8⟩ := fn
        obtain ⟨ap, xp, y, rfl, ep, tl'⟩ := path_last p1 f1
        refine ⟨_, rfl, b, _, _, _, rfl, rfl, SqT.of eb', at0, rfl, _, rfl, ?_⟩
        rw [decide_eq_true rfl]
        refine iteT ⟨_, rfl, b, _, _, _, rfl, rfl, SqT.of eb', at1, _, rfl, ap, _, _, _, rfl, rfl, SqT.of ep, atI_last, _, rfl, sz, fun t ht => ?_⟩
        have ot := Oth.new (S := []) (o := .tup [.str "part", .int (kk : Int)]) ht
        have shn : (lastN p).short := by
          cases e : lastN p with
          | «at» t i => rw [e] at f2; exact ⟨by have := f2.2.2.1; omega, by have := f2.2.2.2; omega⟩
          | key t v => rw [e] at f2; exact (by have := f2.2.1; show t.length ≤ 1000; omega)
          | part k => trivial
        refine ⟨(lastN p).toT, (Nm.part kk).toT, tl'.oth ot, .mk2 upd_same (.str _) (.int _), Nm.eqb shn, Nm.eqb (by simp [Nm.short]), _, rfl, ?_⟩
        by_cases e : lastN p = .part kk
        · refine ite2 (fun cc => ?_) (fun cc => absurd (by rw [e]; simp) cc)
          refine ⟨_, rfl, _, rfl, b, _, _, _, rfl, rfl, SqT.of (ot.tup _ _ eb'), at4, _, rfl, b, _, _, _, rfl, rfl, SqT.of (ot.tup _ _ eb'), at5, kk, rs, inner, _, _, rfl, p4.oth ot, p5.oth ot, hk, f6, f7, f8, by omega, by omega, fun H2 o2 => ?_⟩
          have ef := found (.child p c ps rs inner) (by rw [Nd.pf, if_pos e])
          have ew : (Nd.child p c ps rs inner).wr = wPart kk rs (Nd.wrs inner) := by simp only [Nd.wr, e, wChild]
          rw [← ew, ← ef]
          exact q H2 (o1.trans (ot.trans o2))
        · refine ite2 (fun cc => ?_) (fun cc => ?_)
          · exact absurd (Nm.nk_inj (of_decide_eq_true (by simpa using cc))) e
          · refine ⟨_, rfl, b, _, _, _, rfl, rfl, SqT.of (ot.tup _ _ eb'), at0, rfl, _, rfl, ite2 (fun c2 => ?_) (fun c2 => ?_)⟩
            · exact absurd (of_decide_eq_true c2) (by intro z; injection z with z; exact absurd z (by decide +kernel))
            · exact ⟨_, _, rfl, further (by rw [Nd.pf, if_neg e]), o1.trans ot⟩
      | text _ _ => exact absurd (show ("text" : Str) = "child" from kc) (by decide +kernel)
      | box _ _ _ _ _ => exact absurd (show ("box" : Str) = "child" from kc) (by decide +kernel)
      | input _ _ _ _ _ => exact absurd (show ("input" : Str) = "child" from kc) (by decide +kernel)
      | place _ _ => exact absurd (show ("place" : Str) = "child" from kc) (by decide +kernel)
    · refine ⟨_, rfl, b, _, _, _, rfl, rfl, SqT.of eb, at0, rfl, _, rfl, ite2 (fun cc => ?_) (fun cc => ?_)⟩
      · have := of_decide_eq_true cc
        injection this with this
        exact absurd this kc
      refine ⟨_, rfl, b, _, _, _, rfl, rfl, SqT.of eb, at0, rfl, _, rfl, ite2 (fun c2 => ?_) (fun c2 => ?_)⟩
      · have kb := of_decide_eq_true c2
        injection kb with kb
        cases nd1 with
        | box p tag o act inner =>
          obtain ⟨b', y0, y1, y2, y3, y4, y5, e', eb', p0, p1, p2, p3, p4, p5⟩ := IsT.inv6 tn
          cases e'
          simp only [Nd.ht] at hhn
          simp only [Nd.cnt] at hcn
          refine ⟨_, rfl, b, _, _, _, rfl, rfl, SqT.of eb', at5, _, rfl, kk, inner, _, rfl, p5, hk, fn.2.2.2.2.2, by omega, by omega, fun H2 o2 => ?_⟩
          refine ⟨_, rfl, rfl, ?_⟩
          cases e : Nd.pfs kk inner with
          | none =>
            have et : ptxt kk inner = Str.empty := by unfold ptxt; rw [e]
            rw [et, emptyS]
            refine ⟨_, rfl, ite2 (fun c3 => ?_) (fun c3 => ?_)⟩
            · simp at c3
            · exact ⟨_, _, rfl, further e, o1.trans o2⟩
          | some m =>
            have et : ptxt kk inner = m.wr := by unfold ptxt; rw [e]
            obtain ⟨_, _, p', c', ps', rs', is', em, el⟩ := Nd.pfs_fit inner fn.2.2.2.2.2 e
            have ne : m.wr ≠ Str.empty := fun z => by
              have h1 : (m.wr).length = 0 := by rw [z]; rfl
              rw [em] at h1
              simp only [Nd.wr, el, wChild] at h1
              have := part_pos (k := kk) (rs := rs') (body := Nd.wrs is')
              omega
            rw [et]
            refine ⟨_, rfl, ite2 (fun c3 => ?_) (fun c3 => ?_)⟩
            · refine ⟨_, rfl, ?_⟩
              rw [← found m e]
              exact q H2 (o1.trans o2)
            · refine absurd ?_ c3
              rw [emptyS]
              have : ¬ (V.str m.wr = V.str Str.empty) := fun z => ne (by injection z)
              rw [decide_eq_false this]
              rfl
        | text _ _ => exact absurd (show ("text" : Str) = "box" from kb) (by decide +kernel)
        | child _ _ _ _ _ => exact absurd (show ("child" : Str) = "box" from kb) (by decide +kernel)
        | input _ _ _ _ _ => exact absurd (show ("input" : Str) = "box" from kb) (by decide +kernel)
        | place _ _ => exact absurd (show ("place" : Str) = "box" from kb) (by decide +kernel)
      · refine ⟨_, _, rfl, further ?_, o1⟩
        cases nd1 with
        | box _ _ _ _ _ => exact absurd (decide_eq_true rfl) c2
        | child _ _ _ _ _ => exact absurd rfl kc
        | _ => rfl
  · obtain ⟨x2, x3, rfl, no, o1⟩ := hW
    rw [lx, List.take_length] at no
    have et : ptxt kk ns = Str.empty := by unfold ptxt; rw [no]
    have := q H1 o1
    rw [et, ← emptyS] at this
    exact this
theorem ok_render {f fW fN fF fP fG C : Addr} {fd dW dN dF dP dG : FuncData} {k : Nat} (F : Fun K "render" "Server.render" sRender f fd) (TC : Cls K C) (n1 : NoAttr K C "program") (n2 : NoAttr K C "sent") (n3 : NoAttr K C "ready")
    (GSwa : FnOk P w K mg base CX0 k fW dW ["self"] (spWas C)) (bSwa : Binds K dW ["self"] []) (mtSwa : Meth K C "was_rendered" fW)
    (GSsd : FnOk P w K mg base CX0 k fN dN ["self", "text"] (spSend C)) (bSsd : Binds K dN ["self", "text"] []) (mtSsd : Meth K C "send" fN)
    (GWf : FnOk P w K mg base CX0 k fF dF ["program", "present"] spFirstW) (bWf : Binds K dF ["program", "present"] []) (kWf : PySem.W.keepIn K (.ref fF) = true) (mWf : mg "first_world" = some (.ref fF))
    (GWp : FnOk P w K mg base CX0 k fP dP ["program", "world"] spPageOf) (bWp : Binds K dP ["program", "world"] []) (kWp : PySem.W.keepIn K (.ref fP) = true) (mWp : mg "page_of" = some (.ref fP))
    (GWpg : FnOk P w K mg base CX0 k fG dG ["page"] (spWPage 13)) (bWpg : Binds K dG ["page"] []) (kWpg : PySem.W.keepIn K (.ref fG) = true) (mWpg : mg "write_page" = some (.ref fG)) :
    FnOk P w K mg base CX0 (k + 1) f fd ["self"] (spRender C) := by
  refine F.ok scRender (fun vs H Q E h => ?_) (fun cdv A outer s' H vs Q E' hr h => ?_)
  · obtain ⟨s, g, sent, ready, rfl, _⟩ := h
    rfl
  obtain ⟨s, g, sent, ready, rfl, hs, hg, hr', q⟩ := h
  have nd := scRender.nd
  refine ⟨_, (pss_cons (ps_if (pt_val (pe_meth0 (pv 0) TC mtSwa GSwa hr bSwa .nil pass0))
  (pss_one (ps_ret pe_str))
  pss_nil)
  (pss_one (ps_ret (pe_meth (pv 0) TC mtSsd GSsd hr bSsd .nil pass0 (pa_cons (pe_call GWpg hr rfl mWpg kWpg bWpg .nil pass0 (pa_cons (pe_call GWp hr rfl mWp kWp bWp .nil pass0 (pa_cons (pe_fld (pv 0) rfl) (pa_cons (pe_call GWf hr rfl mWf kWf bWf .nil pass0 (pa_cons (pe_fld (pv 0) rfl) (pa_cons (pe_fld (pv 0) rfl) pa_nil))) pa_nil))) pa_nil)) pa_nil))))), ?_⟩
  obtain ⟨dx, vp, vr, e, tp, tr⟩ := hs.ob
  refine ⟨_, rfl, s, dx, _, rfl, e, no_was, s, g, sent, ready, rfl, hs, _, rfl, ?_⟩
  by_cases he : sent = Str.empty
  · rw [decide_eq_false (by simpa using he)]
    refine iteF ?_
    obtain ⟨f1, f2, f3, f4, f5, _⟩ := own_fits (hr'.good hg)
    have gX := hr'.good hg
    refine ⟨_, rfl, s, dx, _, rfl, e, no_send, _, rfl, s, C, dx, _, _, rfl, e, TC, n1, f_prog, _, rfl, s, C, dx, _, _, rfl, e, TC, n1, f_prog, _, rfl, s, C, dx, _, _, rfl, e, TC, n3, f_ready, fstP g ready, _, _, rfl, tp, tr, rfl, rfl, gX, hr'.asc, fun vw H1 tw o1 => ⟨(fstP g ready).settle, _, _, rfl, tp.oth o1, tw, settle_good gX, fun vpg H2 tpg o2 => ?_⟩⟩
    rw [settle_comp gX, comp12] at tpg
    refine ⟨rds12 (fstP g ready), own12 (fstP g ready), _, rfl, tpg, f4, f5, f1, by omega, by omega, fun H3 o3 => ?_⟩
    have o13 := o1.trans (o2.trans o3)
    have hs3 := hs.oth o13 (by simp)
    obtain ⟨dx3, vp3, vr3, e3, _, _⟩ := hs3.ob
    have lp := pageT_len hg hr'
    have hz : sent.length = 0 := by rw [he]; rfl
    have er : rendT g sent ready = pageT g ready := by unfold rendT; rw [if_pos he]
    refine ⟨s, g, sent, pageT g ready, ready, rfl, hs3, szT (by omega), fun H4 hs4 o4 => ?_⟩
    rw [← er] at hs4 ⊢
    exact q H4 hs4 ((o13.mono (by simp)).trans o4)
  · rw [decide_eq_true (by simpa using he)]
    refine iteT ?_
    have er : rendT g sent ready = Str.empty := by unfold rendT; rw [if_neg he]
    have := q H (by rw [er, appE]; exact hs) Oth.refl
    rw [er, ← emptyS] at this
    exact this
theorem ok_resolve {f fW fN fF fP fG C : Addr} {fd dW dN dF dP dG : FuncData} {k : Nat} (F : Fun K "resolve" "Server.resolve" sResolve f fd) (TC : Cls K C) (n1 : NoAttr K C "program") (n2 : NoAttr K C "sent") (n3 : NoAttr K C "ready")
    (GSwa : FnOk P w K mg base CX0 k fW dW ["self"] (spWas C)) (bSwa : Binds K dW ["self"] []) (mtSwa : Meth K C "was_rendered" fW)
    (GSsd : FnOk P w K mg base CX0 k fN dN ["self", "text"] (spSend C)) (bSsd : Binds K dN ["self", "text"] []) (mtSsd : Meth K C "send" fN)
    (GWf : FnOk P w K mg base CX0 k fF dF ["program", "present"] spFirstW) (bWf : Binds K dF ["program", "present"] []) (kWf : PySem.W.keepIn K (.ref fF) = true) (mWf : mg "first_world" = some (.ref fF))
    (GWp : FnOk P w K mg base CX0 k fP dP ["program", "world"] spPageOf) (bWp : Binds K dP ["program", "world"] []) (kWp : PySem.W.keepIn K (.ref fP) = true) (mWp : mg "page_of" = some (.ref fP))
    (GWtx : FnOk P w K mg base CX0 k fG dG ["nodes", "part"] (spPText 13)) (bWtx : Binds K dG ["nodes", "part"] []) (kWtx : PySem.W.keepIn K (.ref fG) = true) (mWtx : mg "_part_text" = some (.ref fG))
    (m_tuple : mg "tuple" = none) (m_sorted : mg "sorted" = none) :
    FnOk P w K mg base CX0 (k + 1) f fd ["self", "k"] (spResolve C) := by
  refine F.ok scResolve (fun vs H Q E h => ?_) (fun cdv A outer s' H vs Q E' hr h => ?_)
  · obtain ⟨s, g, sent, ready, kk, rfl, _⟩ := h
    rfl
  obtain ⟨s, g, sent, ready, kk, rfl, hs, hg, hr', hk, hl, q⟩ := h
  have nd := scResolve.nd
  refine ⟨_, (pss_cons (ps_if (pt_cmpR op_in_seq (pv 1) (pe_fld (pv 0) rfl) (by rfl))
  (pss_one (ps_ret pe_str))
  pss_nil)
  (pss_cons (ps_fld (pv 0) (pe_tupleOf (by rfl) m_tuple (pe_callB cr_sortedTu (by rfl) m_sorted bo_sorted (pa_cons (pe_op op_catA (pe_fld (pv 0) rfl) (pe_tup (pa_cons (pv 1) pa_nil))) pa_nil))) rfl)
  (pss_cons (ps_if (pt_not (pt_val (pe_meth0 (pv 0) TC mtSwa GSwa hr bSwa .nil pass0)))
  (pss_one (ps_ret pe_str))
  pss_nil)
  (pss_cons (ps_asg (pe_call GWp hr rfl mWp kWp bWp .nil pass0 (pa_cons (pe_fld (pv 0) rfl) (pa_cons (pe_call GWf hr rfl mWf kWf bWf .nil pass0 (pa_cons (pe_fld (pv 0) rfl) (pa_cons (pe_tup (pa_cons (pv 1) pa_nil)) pa_nil))) pa_nil))) (pg_tup rfl (pgs_cons (pg_name (i := 2) nd rfl (.inl rfl)) (pgs_cons (pg_name (i := 3) nd rfl (.inl rfl)) pgs_nil))))
  (pss_one (ps_ret (pe_meth (pv 0) TC mtSsd GSsd hr bSsd .nil pass0 (pa_cons (pe_call GWtx hr rfl mWtx kWtx bWtx .nil pass0 (pa_cons (pv 3) (pa_cons (pv 1) pa_nil))) pa_nil)))))))), ?_⟩
  obtain ⟨dx, vp, vr, e, tp, tr⟩ := hs.ob
  obtain ⟨ar, rfl, er⟩ := tr.nats
  have lr := hr'.len hg
  refine ⟨_, rfl, _, rfl, s, C, dx, _, _, rfl, e, TC, n3, f_ready, ar, _, rfl, .inr (SqT.of er), rfl, flatN _, _, rfl, ?_⟩
  rw [if_neg (by simp), inVn]
  by_cases hin : kk ∈ ready
  · rw [decide_eq_true hin]
    refine iteT ?_
    have et : resT g sent ready kk = Str.empty := by unfold resT; rw [if_pos (.inl hin)]
    have := q H (by rw [et, appE, addN_in hr' hg hin]; exact hs) Oth.refl
    rw [et, ← emptyS] at this
    exact this
  · rw [decide_eq_false hin]
    refine iteF ?_
    refine ⟨_, rfl, s, C, dx, _, _, rfl, e, TC, n3, f_ready, _, rfl, sz, fun t ht => ?_⟩
    have ot := Oth.new (S := []) (o := .tup [.int (kk : Int)]) ht
    refine cat_t (ot.tup _ _ er) upd_same (by simp; omega) fun c H1 o1 e1 => ?_
    have ecat : ready.map natV ++ [V.int (kk : Int)] = ((ready ++ [kk]).map Int.ofNat).map V.int := by
      rw [List.map_append, List.map_append, List.map_map]; rfl
    rw [ecat] at e1
    refine ⟨c, _, rfl, e1, by simp; omega, fun ns' p perm le hp => ?_⟩
    have ens := add_perm hr' hg hk hin perm le
    subst ens
    have op := Oth.new (S := []) (o := .lst (((addN ready kk).map Int.ofNat).map V.int)) hp
    refine .inl ⟨p, _, rfl, SqL.of upd_same, fun t2 ht2 => ?_⟩
    have ot2 := Oth.new (S := []) (o := .tup (((addN ready kk).map Int.ofNat).map V.int)) ht2
    have o13 := ot.trans (o1.trans (op.trans ot2))
    have tr2 : IsT (upd (upd H1 p (.lst (((addN ready kk).map Int.ofNat).map V.int))) t2 (.tup (((addN ready kk).map Int.ofNat).map V.int))) (natsT (addN ready kk)) (.ref t2) := mkNats (by rw [upd_same, List.map_map]; rfl)
    have e3 := o13.keep s _ (by simp) e
    have tp3 := tp.oth o13
    generalize upd (upd H1 p (.lst (((addN ready kk).map Int.ofNat).map V.int))) t2 (.tup (((addN ready kk).map Int.ofNat).map V.int)) = H3 at o13 tr2 e3 tp3
    refine ⟨_, rfl, s, C, dx, _, rfl, e3, TC, n3, (by show 3 < 1000; decide), ?_⟩
    rw [put_ready]
    have i4 : Oth [s] H3 (upd H3 s (.ins C dx (srvF vp sent (.ref t2)))) := Oth.ins (List.mem_singleton.mpr rfl) e3
    have e4 : (upd H3 s (.ins C dx (srvF vp sent (.ref t2)))) s = some (.ins C dx (srvF vp sent (.ref t2))) := upd_same
    have hs4 : SrvAt C (upd H3 s (.ins C dx (srvF vp sent (.ref t2)))) s g sent (addN ready kk) := ⟨dx, vp, .ref t2, e4, tp3.oth i4, tr2.oth i4⟩
    have o4 : Oth [s] H _ := (o13.mono (by simp)).trans i4
    have tp4 := tp3.oth i4
    generalize upd H3 s (.ins C dx (srvF vp sent (.ref t2))) = H4 at i4 e4 hs4 o4 tp4
    refine ⟨_, rfl, s, dx, _, rfl, e4, no_was, s, g, sent, _, rfl, hs4, _, rfl, ?_⟩
    by_cases he : sent = Str.empty
    · rw [decide_eq_false (by simpa using he)]
      refine iteT ?_
      have et : resT g sent ready kk = Str.empty := by unfold resT; rw [if_pos (.inr he)]
      have := q H4 (by rw [et, appE]; exact hs4) o4
      rw [et, ← emptyS] at this
      exact this
    · rw [decide_eq_true (by simpa using he)]
      refine iteF ?_
      have r1 := rdy_one hk
      have gX := r1.good hg
      obtain ⟨f1, f2, f3, f4, f5, _⟩ := own_fits gX
      refine ⟨_, rfl, s, C, dx, _, _, rfl, e4, TC, n1, f_prog, _, rfl, s, C, dx, _, _, rfl, e4, TC, n1, f_prog, _, rfl, sz, fun t5 ht5 => ?_⟩
      have o5 := Oth.new (S := []) (o := .tup [.int (kk : Int)]) ht5
      refine ⟨fstP g [kk], _, _, rfl, tp4.oth o5, mkNats (ns := [kk]) upd_same, rfl, rfl, gX, r1.asc, fun vw H6 tw o6 => ⟨(fstP g [kk]).settle, _, _, rfl, (tp4.oth o5).oth o6, tw, settle_good gX, fun vpg H7 tpg o7 => ?_⟩⟩
      rw [settle_comp gX, comp12] at tpg
      obtain ⟨a, v1, v2, rfl, ea, t1, t2'⟩ := IsT.inv2 tpg
      refine ⟨a, _, rfl, SqT.of ea, rfl, _, _, rfl, _, _, rfl, rfl, ?_⟩
      have o57 := o5.trans (o6.trans o7)
      refine ⟨_, rfl, s, dx, _, rfl, o57.keep _ _ (by simp) e4, no_send, _, rfl, _, rfl, kk, own12 (fstP g [kk]), _, rfl, t2', by have := hg.pl; omega, f1, by omega, by omega, fun H8 o8 => ?_⟩
      have o58 := o57.trans o8
      have lp := ptxt_len gX kk
      have et : resT g sent ready kk = ptxt kk (own12 (fstP g [kk])) := by unfold resT; rw [if_neg (fun z => z.elim hin he)]
      refine ⟨s, g, sent, ptxt kk (own12 (fstP g [kk])), _, rfl, hs4.oth o58 (by simp), szT (by omega), fun H9 hs9 o9 => ?_⟩
      rw [← et] at hs9 ⊢
      exact q H9 hs9 (o4.trans ((o58.mono (by simp)).trans o9))
end
abbrev sLNums : Stmt := topS 57
abbrev sLName : Stmt := topS 58
abbrev sLWrite : Stmt := topS 59
theorem scLNums : FnScope ["row", "k"] ["row"] (defScope sLNums) := ⟨rfl, rfl, rfl, by decide +kernel, rfl, by decide +kernel, by decide +kernel⟩
theorem scLName : FnScope ["name"] ["name"] (defScope sLName) := ⟨rfl, rfl, rfl, by decide +kernel, rfl, by decide +kernel, by decide +kernel⟩
theorem scLWrite : FnScope ["nodes", "out", "node", "name", "action"] ["nodes", "out"] (defScope sLWrite) := ⟨rfl, rfl, rfl, by decide +kernel, rfl, by decide +kernel, by decide +kernel⟩
section
variable {P : Program} {w : World} {K : PySem.W.Frag} {mg : Str → Option Value} {base : Heap}
theorem ok_lnums {f : Addr} {fd : FuncData} {k : Nat} (F : Fun K "_law_numbers" "_law_numbers" sLNums f fd) (m_str : mg "str" = none) (m_len : mg "len" = none) :
    FnOk P w K mg base CX0 (k + 1) f fd ["row"] spNums := by
  refine F.ok scLNums (fun vs H Q E h => ?_) (fun cdv A outer s H vs Q E' hr h => ?_)
  · obtain ⟨ns, v, rfl, _⟩ := h
    rfl
  obtain ⟨ns, v, rfl, tv, sm, ln, q⟩ := h
  have nd := scLNums.nd
  refine ⟨_, (pss_cons (ps_if (pt_cmpR op_eq (pe_callB call_len_seq (by rfl) m_len PySem.boot_len (pa_cons (pv 0) pa_nil)) pe_int (nomark _))
  (pss_one (ps_ret pe_str))
  pss_nil)
  (pss_one (ps_ret (pe_join pe_str (pe_lc (own := [("k", 1)]) (g := gName 1) (tt := tYes) rfl nd (pi_tup (pv 0)) (blkOk_by (N := ["row", "k"]) (sc := defScope sLNums) (by decide +kernel)) (fun _ _ _ _ _ => (pg_name (i := 1) nd rfl (.inl rfl))) (fun _ _ _ _ _ => pts_nil) (fun _ _ _ _ _ => (pe_callTy call_str_int (by rfl) m_str bo_str (pa_cons (pv 1) pa_nil)))))))), ?_⟩
  obtain ⟨a, rfl, ea⟩ := tv.ints
  refine ⟨_, rfl, a, _, rfl, .inr (SqT.of ea), rfl, _, rfl, ?_⟩
  cases ns with
  | nil => exact iteT (q H Oth.refl)
  | cons n ns =>
    refine iteFb (decide_eq_false fun z => by injection z with z; simp at z; omega) ?_
    refine ⟨⟨_, rfl⟩, _, rfl, a, rfl, ⟨_, SqT.of ea⟩, fun D hD => lc_tup (xs := (n :: ns).map V.int)
      (fun j H1 => H1 D = some (.lst ((((n :: ns).take j).map numS).map V.str)) ∧ Oth [D] H H1) ⟨upd_same, Oth.new hD⟩ (fun j H1 _ hW => ?_) (fun j x H1 hx hW => ?_) (fun H1 hW => ?_)⟩
    · exact SqT.of (hW.2.tup _ _ ea)
    · obtain ⟨hD1, o1⟩ := hW
      rw [List.getElem?_map] at hx
      obtain ⟨i, gi, rfl⟩ := Option.map_eq_some_iff.mp hx
      have op : Oth [D] H1 (upd H1 D (.lst ((((n :: ns).take j).map numS).map V.str ++ [.str (numS i)]))) := Oth.put (by simp) hD1
      refine ⟨rfl, _, rfl, i, rfl, natAbs_log (sm i (List.mem_of_getElem? gi)), _, hD1, Nat.lt_of_le_of_lt (by rw [List.length_map, List.length_map, List.length_take]; omega : ((((n :: ns).take j).map numS).map V.str).length ≤ 1000) (by decide), ?_, o1.trans op⟩
      rw [upd_same, take_snoc gi, List.map_append, List.map_append]
      rfl
    · obtain ⟨hD1, o1⟩ := hW
      rw [List.length_map, List.take_length] at hD1
      have h1 := nums_sum sm
      refine ⟨_, D, _, rfl, rfl, .inl (SqL.of hD1), ?_, ?_⟩
      · have hd : (("." : Str)).length = 1 := dot1
        rw [hd, List.length_map]
        omega
      · rw [join_txt]
        exact q H1 (Oth.drop o1 hD)
theorem ok_lname {f fN : Addr} {fd dN : FuncData} {k : Nat} (F : Fun K "_law_name" "_law_name" sLName f fd)
    (GLnu : FnOk P w K mg base CX0 k fN dN ["row"] spNums) (bLnu : Binds K dN ["row"] []) (kLnu : PySem.W.keepIn K (.ref fN) = true) (mLnu : mg "_law_numbers" = some (.ref fN)) (m_str : mg "str" = none) :
    FnOk P w K mg base CX0 (k + 1) f fd ["name"] spWName := by
  refine F.ok scLName (fun vs H Q E h => ?_) (fun cdv A outer s H vs Q E' hr h => ?_)
  · obtain ⟨n, v, rfl, _⟩ := h
    rfl
  obtain ⟨n, v, rfl, tv, fit, np, q⟩ := h
  have nd := scLName.nd
  refine ⟨_, (pss_cons (ps_if (pt_cmpR op_eq (pe_ix ix_tup (pv 0) pe_int (fun _ _ => rfl)) pe_str (nomark _))
  (pss_one (ps_ret (pe_op op_add_str (pe_op op_add_str (pe_op op_add_str pe_str (pe_call GLnu hr rfl mLnu kLnu bLnu .nil pass0 (pa_cons (pe_ix ix_tup (pv 0) pe_int (fun _ _ => rfl)) pa_nil))) pe_str) (pe_callTy call_str_int (by rfl) m_str bo_str (pa_cons (pe_ix ix_tup (pv 0) pe_int (fun _ _ => rfl)) pa_nil)))))
  pss_nil)
  (pss_one (ps_ret (pe_op op_add_str (pe_op op_add_str (pe_op op_add_str pe_str (pe_call GLnu hr rfl mLnu kLnu bLnu .nil pass0 (pa_cons (pe_ix ix_tup (pv 0) pe_int (fun _ _ => rfl)) pa_nil))) pe_str) (pe_call GLnu hr rfl mLnu kLnu bLnu .nil pass0 (pa_cons (pe_ix ix_tup (pv 0) pe_int (fun _ _ => rfl)) pa_nil)))))), ?_⟩
  obtain ⟨s1, s2, s3, s4, _⟩ := sign1
  cases n with
  | part k => cases np
  | key t v =>
    obtain ⟨b, _, v1, v2, rfl, eb, p0, p1, p2⟩ := IsT.inv3 tv
    obtain rfl := p0.of_str
    obtain rfl := p2.of_int
    have l1 := nums_len fit.1
    have l2 := numS_len fit.2.2
    have l3 := fit.2.1
    refine ⟨_, rfl, b, _, _, _, rfl, rfl, SqT.of eb, at0, rfl, _, rfl, iteTb strTr ?_⟩
    refine ⟨_, rfl, b, _, _, _, rfl, rfl, SqT.of eb, at1, t, _, rfl, p1, fit.1, by omega, fun H1 o1 => ⟨_, _, rfl, rfl, szT (by rw [s1]; omega), "k" ++ wNums t, _, rfl, rfl, szT (by rw [lenA, s1, s3]; omega), _, rfl, b, _, _, _, rfl, rfl, SqT.of (o1.tup _ _ eb), at2, v, rfl, natAbs_log fit.2.2, "k" ++ wNums t ++ "=", numS v, rfl, rfl, szT (by rw [lenA, lenA, s1, s3]; omega), q H1 o1⟩⟩
  | «at» t i =>
    obtain ⟨b, _, v1, v2, rfl, eb, p0, p1, p2⟩ := IsT.inv3 tv
    obtain rfl := p0.of_str
    have l1 := nums_len fit.1
    have l2 := nums_len fit.2.1
    have l3 := fit.2.2.1
    have l4 := fit.2.2.2
    refine ⟨_, rfl, b, _, _, _, rfl, rfl, SqT.of eb, at0, rfl, _, rfl, iteFb (strF (by decide +kernel)) ?_⟩
    refine ⟨_, rfl, b, _, _, _, rfl, rfl, SqT.of eb, at1, t, _, rfl, p1, fit.1, by omega, fun H1 o1 => ⟨_, _, rfl, rfl, szT (by rw [s2]; omega), "a" ++ wNums t, _, rfl, rfl, szT (by rw [lenA, s2, s4]; omega), _, rfl, b, _, _, _, rfl, rfl, SqT.of (o1.tup _ _ eb), at2, i, _, rfl, p2.oth o1, fit.2.1, by omega, fun H2 o2 => ⟨"a" ++ wNums t ++ "/", wNums i, rfl, rfl, szT (by rw [lenA, lenA, s2, s4]; omega), q H2 (o1.trans o2)⟩⟩⟩
theorem ok_lwrite {f fM fN : Addr} {fd dM dN : FuncData} {k n : Nat} (F : Fun K "_law_write" "_law_write" sLWrite f fd)
    (GLwr : FnOk P w K mg base CX0 k f fd ["nodes", "out"] (spLWrite n)) (bLwr : Binds K fd ["nodes", "out"] []) (kLwr : PySem.W.keepIn K (.ref f) = true) (mLwr : mg "_law_write" = some (.ref f))
    (GLnm : FnOk P w K mg base CX0 k fM dM ["name"] spWName) (bLnm : Binds K dM ["name"] []) (kLnm : PySem.W.keepIn K (.ref fM) = true) (mLnm : mg "_law_name" = some (.ref fM))
    (GLnu : FnOk P w K mg base CX0 k fN dN ["row"] spNums) (bLnu : Binds K dN ["row"] []) (kLnu : PySem.W.keepIn K (.ref fN) = true) (mLnu : mg "_law_numbers" = some (.ref fN)) (m_str : mg "str" = none) (m_len : mg "len" = none) :
    FnOk P w K mg base CX0 (k + 1) f fd ["nodes", "out"] (spLWrite (n + 1)) := by
  refine F.ok scLWrite (fun vs H Q E h => ?_) (fun cdv A outer s H vs Q E' hr h => ?_)
  · obtain ⟨ns, v, o, L, t, us, rfl, _⟩ := h
    rfl
  obtain ⟨ns, v, o, L, t, us, rfl, tv, ho, hL, noL, fit, hh, hc, ht, hu, q⟩ := h
  have nd := scLWrite.nd
  refine ⟨_, (pss_one (ps_for PassesOwn.never rfl (pi_tup (pv 0)) (pg_name (i := 2) nd rfl (.inl rfl))
  (pss_cons (ps_set (i := 3) nd rfl (.inl rfl) (pe_ix ix_tup (pe_ix ix_tup (pv 2) pe_int (fun _ _ => rfl)) (pe_op op_sub (pe_callB call_len_seq (by rfl) m_len PySem.boot_len (pa_cons (pe_ix ix_tup (pv 2) pe_int (fun _ _ => rfl)) pa_nil)) pe_int) (fun _ _ => rfl)))
  (pss_one (ps_if (pt_cmpR op_eq (pe_ix ix_tup (pv 2) pe_int (fun _ _ => rfl)) pe_str (nomark _))
  (pss_cons (ps_asg (pe_op op_add_str (pe_op op_add_str (pe_op op_add_str (pe_ix ix_list (pv 1) pe_int (fun _ _ => rfl)) pe_str) (pe_ix ix_tup (pv 2) pe_int (fun _ _ => rfl))) pe_str) (pg_sub (pv 1) pe_int set_list))
  (pss_one (ps_expr (pe_bm PySem.F.plainAttrs_list PySem.F.slot_list_append PySem.F.type_list_append mt_append (pe_ix ix_list (pv 1) pe_int (fun _ _ => rfl)) (pa_cons (pe_tup (pa_cons (pe_ix ix_tup (pv 2) pe_int (fun _ _ => rfl)) (pa_cons (pe_callB call_len_str (by rfl) m_len PySem.boot_len (pa_cons (pe_ix ix_list (pv 1) pe_int (fun _ _ => rfl)) pa_nil)) pa_nil))) pa_nil)))))
  (pss_one (ps_if (pt_cmpR op_eq (pe_ix ix_tup (pv 2) pe_int (fun _ _ => rfl)) pe_str (nomark _))
  (pss_one (ps_asg (pe_op op_add_str (pe_op op_add_str (pe_op op_add_str (pe_ix ix_list (pv 1) pe_int (fun _ _ => rfl)) pe_str) (pe_callTy call_str_int (by rfl) m_str bo_str (pa_cons (pe_ix ix_tup (pv 2) pe_int (fun _ _ => rfl)) pa_nil))) pe_str) (pg_sub (pv 1) pe_int set_list)))
  (pss_one (ps_if (pt_cmpR op_eq (pe_ix ix_tup (pv 2) pe_int (fun _ _ => rfl)) pe_str (nomark _))
  (pss_cons (ps_asg (pe_op op_add_str (pe_op op_add_str (pe_op op_add_str (pe_op op_add_str (pe_op op_add_str (pe_op op_add_str (pe_op op_add_str (pe_op op_add_str (pe_op op_add_str (pe_ix ix_list (pv 1) pe_int (fun _ _ => rfl)) pe_str) (pe_call GLnm hr rfl mLnm kLnm bLnm .nil pass0 (pa_cons (pv 3) pa_nil))) pe_str) (pe_ix ix_tup (pv 2) pe_int (fun _ _ => rfl))) pe_str) (pe_callTy call_str_int (by rfl) m_str bo_str (pa_cons (pe_ix ix_tup (pv 2) pe_int (fun _ _ => rfl)) pa_nil))) pe_str) (pe_callTy call_str_int (by rfl) m_str bo_str (pa_cons (pe_ix ix_tup (pv 2) pe_int (fun _ _ => rfl)) pa_nil))) pe_str) (pg_sub (pv 1) pe_int set_list))
  (pss_one (ps_expr (pe_bm PySem.F.plainAttrs_list PySem.F.slot_list_append PySem.F.type_list_append mt_append (pe_ix ix_list (pv 1) pe_int (fun _ _ => rfl)) (pa_cons (pe_tup (pa_cons (pe_ix ix_tup (pv 2) pe_int (fun _ _ => rfl)) (pa_cons (pe_callB call_len_str (by rfl) m_len PySem.boot_len (pa_cons (pe_ix ix_list (pv 1) pe_int (fun _ _ => rfl)) pa_nil)) pa_nil))) pa_nil)))))
  (pss_one (ps_if (pt_cmpR op_eq (pe_ix ix_tup (pv 2) pe_int (fun _ _ => rfl)) pe_str (nomark _))
  (pss_cons (ps_set (i := 4) nd rfl (.inl rfl) pe_str)
  (pss_cut (ps_if (pt_cmpR op_notN (pe_ix ix_tup (pv 2) pe_int (fun _ _ => rfl)) pe_non (nomark _))
  (pss_one (ps_set (i := 4) nd rfl (.inl rfl) (pe_callTy call_str_int (by rfl) m_str bo_str (pa_cons (pe_ix ix_tup (pv 2) pe_int (fun _ _ => rfl)) pa_nil))))
  pss_nil)
  (pss_cons (ps_asg (pe_op op_add_str (pe_op op_add_str (pe_op op_add_str (pe_op op_add_str (pe_op op_add_str (pe_op op_add_str (pe_op op_add_str (pe_ix ix_list (pv 1) pe_int (fun _ _ => rfl)) pe_str) (pe_call GLnm hr rfl mLnm kLnm bLnm .nil pass0 (pa_cons (pv 3) pa_nil))) pe_str) (pe_ix ix_tup (pv 2) pe_int (fun _ _ => rfl))) pe_str) (pv 4)) pe_str) (pg_sub (pv 1) pe_int set_list))
  (pss_cons (ps_expr (pe_bm PySem.F.plainAttrs_list PySem.F.slot_list_append PySem.F.type_list_append mt_append (pe_ix ix_list (pv 1) pe_int (fun _ _ => rfl)) (pa_cons (pe_tup (pa_cons (pe_ix ix_tup (pv 2) pe_int (fun _ _ => rfl)) (pa_cons (pe_callB call_len_str (by rfl) m_len PySem.boot_len (pa_cons (pe_ix ix_list (pv 1) pe_int (fun _ _ => rfl)) pa_nil)) pa_nil))) pa_nil)))
  (pss_cons (ps_expr (pe_call GLwr hr rfl mLwr kLwr bLwr .nil pass0 (pa_cons (pe_ix ix_tup (pv 2) pe_int (fun _ _ => rfl)) (pa_cons (pv 1) pa_nil))))
  (pss_one (ps_asg (pe_op op_add_str (pe_ix ix_list (pv 1) pe_int (fun _ _ => rfl)) pe_str) (pg_sub (pv 1) pe_int set_list))))))))
  (pss_one (ps_if (pt_cmpR op_eq (pe_ix ix_tup (pv 3) pe_int (fun _ _ => rfl)) pe_str (nomark _))
  (pss_cons (ps_asg (pe_op op_add_str (pe_op op_add_str (pe_op op_add_str (pe_op op_add_str (pe_op op_add_str (pe_ix ix_list (pv 1) pe_int (fun _ _ => rfl)) pe_str) (pe_callTy call_str_int (by rfl) m_str bo_str (pa_cons (pe_ix ix_tup (pv 3) pe_int (fun _ _ => rfl)) pa_nil))) pe_str) (pe_call GLnu hr rfl mLnu kLnu bLnu .nil pass0 (pa_cons (pe_ix ix_tup (pv 2) pe_int (fun _ _ => rfl)) pa_nil))) pe_str) (pg_sub (pv 1) pe_int set_list))
  (pss_cons (ps_expr (pe_call GLwr hr rfl mLwr kLwr bLwr .nil pass0 (pa_cons (pe_ix ix_tup (pv 2) pe_int (fun _ _ => rfl)) (pa_cons (pv 1) pa_nil))))
  (pss_one (ps_asg (pe_op op_add_str (pe_ix ix_list (pv 1) pe_int (fun _ _ => rfl)) pe_str) (pg_sub (pv 1) pe_int set_list)))))
  (pss_cons (ps_asg (pe_op op_add_str (pe_op op_add_str (pe_op op_add_str (pe_op op_add_str (pe_op op_add_str (pe_ix ix_list (pv 1) pe_int (fun _ _ => rfl)) pe_str) (pe_call GLnm hr rfl mLnm kLnm bLnm .nil pass0 (pa_cons (pv 3) pa_nil))) pe_str) (pe_callTy call_str_int (by rfl) m_str bo_str (pa_cons (pe_ix ix_tup (pv 2) pe_int (fun _ _ => rfl)) pa_nil))) pe_str) (pg_sub (pv 1) pe_int set_list))
  (pss_cons (ps_asg (pe_op op_add_str (pe_op op_add_str (pe_op op_add_str (pe_op op_add_str (pe_ix ix_list (pv 1) pe_int (fun _ _ => rfl)) (pe_call GLnu hr rfl mLnu kLnu bLnu .nil pass0 (pa_cons (pe_ix ix_tup (pv 2) pe_int (fun _ _ => rfl)) pa_nil))) pe_str) (pe_call GLnu hr rfl mLnu kLnu bLnu .nil pass0 (pa_cons (pe_ix ix_tup (pv 2) pe_int (fun _ _ => rfl)) pa_nil))) pe_str) (pg_sub (pv 1) pe_int set_list))
  (pss_cons (ps_expr (pe_call GLwr hr rfl mLwr kLwr bLwr .nil pass0 (pa_cons (pe_ix ix_tup (pv 2) pe_int (fun _ _ => rfl)) (pa_cons (pv 1) pa_nil))))
  (pss_one (ps_asg (pe_op op_add_str (pe_ix ix_list (pv 1) pe_int (fun _ _ => rfl)) pe_str) (pg_sub (pv 1) pe_int set_list))))))))))))))))))), ?_⟩
  obtain ⟨a, xs, rfl, ea, pa⟩ := tv.inv
  have lx : xs.length = ns.length := by rw [(paired_get pa).1, Nd.toTs_map, List.length_map]
  obtain ⟨s1, s2, s3, s4, s5, s6, s7, s8, s9, s10, s11, s12, s13, s14, s15, s16⟩ := sign1
  refine ⟨_, rfl, a, rfl, ⟨xs, SqT.of ea⟩, for_tup (xs := xs)
    (fun j σ H1 => ∃ (x2 x3 x4 : Option V) (ms : List V), σ = [some (.ref a), some (.ref o), x2, x3, x4] ∧ H1 o = some (.lst [.str (t ++ Nd.wrs (ns.take j)), .ref L]) ∧ H1 L = some (.lst (us ++ ms)) ∧ Paired (IsT H1) ((Nd.mks t.length (ns.take j)).map mkT) ms ∧ Oth [o, L] H H1)
    ⟨none, none, none, [], rfl, by simp only [List.take_zero, Nd.wrs, appE]; exact ho, by rw [List.append_nil]; exact hL, .nil, Oth.refl⟩ (fun j σ H1 _ hW => ?_) (fun j x σ H1 hx hW => ?_) (fun σ H1 hW => ?_)⟩
  · obtain ⟨_, _, _, _, _, _, _, _, o1⟩ := hW
    exact SqT.of (o1.tup _ _ ea)
  · obtain ⟨x2, x3, x4, ms, rfl, ho1, hL1, pm1, o1⟩ := hW
    have hj : j < ns.length := by rw [← lx]; exact (List.getElem?_eq_some_iff.mp hx).1
    obtain ⟨nd1, gn⟩ : ∃ nd, ns[j]? = some nd := ⟨ns[j], List.getElem?_eq_getElem hj⟩
    have tn : IsT H1 nd1.toT x := ((paired_get pa).2 j _ _ (by rw [Nd.toTs_map, List.getElem?_map, gn]; rfl) hx).oth o1
    have mem := List.mem_of_getElem? gn
    have hhn := hts_mem mem
    have fn := fits_mem fit nd1 mem
    have split : Nd.cnts (ns.take j) + nd1.cnt ≤ Nd.cnts ns := by
      have e3 : nd1 = ns[j] := by rw [List.getElem?_eq_getElem hj] at gn; exact (Option.some.inj gn).symm
      have e4 : ns = ns.take j ++ (nd1 :: ns.drop (j + 1)) := by rw [e3, ← List.drop_eq_getElem_cons hj, List.take_append_drop]
      have e5 := congrArg Nd.cnts e4
      rw [ncnts_app] at e5
      simp only [Nd.cnts] at e5
      omega
    have ftk : Nd.Fits (ns.take j) := fits_of fun y hy => fits_mem fit y (List.mem_of_mem_take hy)
    have ltk := Nd.wrs_len _ ftk
    have lms : ms.length ≤ Nd.cnts (ns.take j) := by
      have h1 := (paired_get pm1).1
      rw [List.length_map] at h1
      have h2 := Nd.mks_len (ns.take j) (off := t.length)
      omega
    have hT : (t ++ Nd.wrs (ns.take j)).length = t.length + (Nd.wrs (ns.take j)).length := lenA _ _
    have emk : Nd.mks t.length (ns.take (j + 1)) = Nd.mks t.length (ns.take j) ++ nd1.mk1 (t.length + (Nd.wrs (ns.take j)).length) := by
      rw [take_snoc gn, mks_app]
      simp only [Nd.mks, List.append_nil]
    have ewr : t ++ Nd.wrs (ns.take (j + 1)) = t ++ Nd.wrs (ns.take j) ++ nd1.wr := by
      rw [take_snoc gn, wrs_app, assA]
      simp only [Nd.wrs, appE]
    rw [← hT] at emk
    obtain ⟨T, hTT⟩ : ∃ T, T = t ++ Nd.wrs (ns.take j) := ⟨_, rfl⟩
    rw [← hTT] at ho1 emk ewr hT
    have lT : T.length + 120 * nd1.cnt ≤ 9000000 := by omega
    have fin : ∀ (H9 : Hp) (zs : List V) (y3 y4 : Option V), H9 o = some (.lst [.str (T ++ nd1.wr), .ref L]) → H9 L = some (.lst (us ++ ms ++ zs)) → Paired (IsT H9) ((nd1.mk1 T.length).map mkT) zs → Oth [o, L] H1 H9 →
        ∃ (x2 x3 x4 : Option V) (ms' : List V), ([some (.ref a), some (.ref o), some x, y3, y4] : L2.St) = [some (.ref a), some (.ref o), x2, x3, x4] ∧ H9 o = some (.lst [.str (t ++ Nd.wrs (ns.take (j + 1))), .ref L]) ∧ H9 L = some (.lst (us ++ ms')) ∧ Paired (IsT H9) ((Nd.mks t.length (ns.take (j + 1))).map mkT) ms' ∧ Oth [o, L] H H9 := fun H9 zs y3 y4 e1 e2 pz o9 => by
      refine ⟨_, _, _, ms ++ zs, rfl, by rw [ewr]; exact e1, by rw [← List.append_assoc]; exact e2, ?_, o1.trans o9⟩
      rw [emk, List.map_append]
      exact paired_app (paired_oth pm1 o9) pz
    -- how out is written
    have putO : ∀ {H2 : Hp} {A B : Str}, H2 o = some (.lst [.str A, .ref L]) → Oth [o, L] H2 (upd H2 o (.lst [.str B, .ref L])) ∧ (upd H2 o (.lst [.str B, .ref L])) o = some (.lst [.str B, .ref L]) := fun {H2 A B} e => ⟨Oth.put (by simp) e, upd_same⟩
    cases nd1 with
    | text p s =>
      obtain ⟨b, _, v1, v2, rfl, eb, p0, p1, p2⟩ := IsT.inv3 tn
      obtain rfl := p0.of_str
      obtain rfl := p2.of_str
      obtain ⟨f1, f2⟩ := fn
      obtain ⟨ap, xp, y, rfl, ep, tl'⟩ := path_last p1 f1
      refine ⟨_, rfl, b, _, _, _, rfl, rfl, SqT.of eb, at1, _, rfl, b, _, _, _, rfl, rfl, SqT.of eb, at1, ap, _, rfl, .inr (SqT.of ep), _, _, rfl, rfl, ap, _, _, _, rfl, rfl, SqT.of ep, atI_end, ?_⟩
      refine ⟨_, rfl, b, _, _, _, rfl, rfl, SqT.of eb, at0, rfl, _, rfl, iteTb strTr ?_⟩
      have ew : T ++ "'" ++ s ++ "'" = T ++ (Nd.text p s).wr := by simp only [Nd.wr, assA]
      refine ⟨_, rfl, o, _, _, _, rfl, rfl, SqL.of ho1, at0, _, _, rfl, rfl, szT (by rw [s15]; omega), _, rfl, b, _, _, _, rfl, rfl, SqT.of eb, at2, T ++ "'", s, rfl, rfl, szT (by rw [lenA, s15]; omega), T ++ "'" ++ s, _, rfl, rfl, szT (by rw [lenA, lenA, s15]; omega), ?_⟩
      rw [ew]
      refine ⟨_, rfl, o, _, 0, 0, rfl, rfl, ho1, rfl, ?_⟩
      rw [set0]
      obtain ⟨oo, ho2⟩ := putO (B := T ++ (Nd.text p s).wr) ho1
      have hL2 : (upd H1 o (.lst [.str (T ++ (Nd.text p s).wr), .ref L])) L = some (.lst (us ++ ms)) := by rw [upd_ne noL.symm]; exact hL1
      have eb2 := oo.tup _ _ eb
      have p12 := p1.oth oo
      generalize upd H1 o (.lst [.str (T ++ (Nd.text p s).wr), .ref L]) = H2 at oo ho2 hL2 eb2 p12
      have lw := Nd.wr_len (.text p s) ⟨f1, f2⟩
      refine ⟨_, rfl, o, _, _, _, rfl, rfl, SqL.of ho2, at1, .inl ⟨rfl, _, SqL.of hL2⟩, _, rfl, b, _, _, _, rfl, rfl, SqT.of eb2, at1, _, rfl, o, _, _, _, rfl, rfl, SqL.of ho2, at0, T ++ (Nd.text p s).wr, rfl, szT (by rw [lenA]; omega), sz, fun t1 ht1 => ?_⟩
      have ot := Oth.new (S := []) (o := .tup [.ref ap, .int (((T ++ (Nd.text p s).wr).length : Nat) : Int)]) ht1
      have hL3 := ot.keep L _ (by simp) hL2
      have ho3 := ot.keep o _ (by simp) ho2
      have oL : Oth [o, L] _ (upd (upd H2 t1 (.tup [.ref ap, .int (((T ++ (Nd.text p s).wr).length : Nat) : Int)])) L (.lst (us ++ ms ++ [.ref t1]))) := Oth.put (by simp) hL3
      refine ⟨L, _, _, rfl, rfl, hL3, Nat.lt_of_le_of_lt (by rw [List.length_append]; omega : (us ++ ms).length ≤ 200000) (by decide), ?_⟩
      refine fin _ [.ref t1] _ _ (by rw [upd_ne noL]; exact ho3) upd_same (.cons ?_ .nil) (oo.trans ((ot.mono (by simp)).trans oL))
      show IsT _ (mkT (p, T.length + (Nd.text p s).wr.length)) _
      have e5 : T.length + (Nd.text p s).wr.length = (T ++ (Nd.text p s).wr).length := (lenA _ _).symm
      have : IsT _ (mkT (p, (T ++ (Nd.text p s).wr).length)) (.ref t1) := .mk2 (oL.tup _ _ upd_same) ((p12.oth ot).oth oL) (.int _)
      exact Eq.mpr (congrArg (fun m => IsT _ (mkT (p, m)) (.ref t1)) e5) this
    | place p kk =>
      obtain ⟨b, _, v1, v2, rfl, eb, p0, p1, p2⟩ := IsT.inv3 tn
      obtain rfl := p0.of_str
      obtain rfl := p2.of_int
      obtain ⟨f1, f2⟩ := fn
      obtain ⟨ap, xp, y, rfl, ep, tl'⟩ := path_last p1 f1
      refine ⟨_, rfl, b, _, _, _, rfl, rfl, SqT.of eb, at1, _, rfl, b, _, _, _, rfl, rfl, SqT.of eb, at1, ap, _, rfl, .inr (SqT.of ep), _, _, rfl, rfl, ap, _, _, _, rfl, rfl, SqT.of ep, atI_end, ?_⟩
      refine ⟨_, rfl, b, _, _, _, rfl, rfl, SqT.of eb, at0, rfl, _, rfl, iteFb (strF (by decide +kernel)) ?_⟩
      refine ⟨_, rfl, b, _, _, _, rfl, rfl, SqT.of eb, at0, rfl, _, rfl, iteTb strTr ?_⟩
      have l1 := numS_nat f2
      have ew : T ++ "{" ++ numS (kk : Int) ++ "}" = T ++ (Nd.place p kk).wr := by simp only [Nd.wr, assA]
      refine ⟨_, rfl, o, _, _, _, rfl, rfl, SqL.of ho1, at0, _, _, rfl, rfl, szT (by rw [s6]; omega), _, rfl, b, _, _, _, rfl, rfl, SqT.of eb, at2, _, rfl, natAbs_nat f2, T ++ "{", numS (kk : Int), rfl, rfl, szT (by rw [lenA, s6]; omega), T ++ "{" ++ numS (kk : Int), _, rfl, rfl, szT (by rw [lenA, lenA, s6, s8]; omega), ?_⟩
      rw [ew]
      refine ⟨_, rfl, o, _, 0, 0, rfl, rfl, ho1, rfl, ?_⟩
      rw [set0]
      obtain ⟨oo, ho2⟩ := putO (B := T ++ (Nd.place p kk).wr) ho1
      exact fin _ [] _ _ ho2 (by rw [upd_ne noL.symm, List.append_nil]; exact hL1) .nil oo
    | input p tag ow c v =>
      obtain ⟨b, _, v1, v2, v3, v4, v5, rfl, eb, p0, p1, p2, p3, p4, p5⟩ := IsT.inv6 tn
      obtain rfl := p0.of_str
      obtain rfl := p2.of_str
      obtain rfl := p4.of_int
      obtain rfl := p5.of_int
      have fn0 : (Nd.input p tag ow c v).Fit := fn
      obtain ⟨f1, f2, f3, f4, f5, f6⟩ := fn
      obtain ⟨ap, xp, y, rfl, ep, tl'⟩ := path_last p1 f1
      refine ⟨_, rfl, b, _, _, _, rfl, rfl, SqT.of eb, at1, _, rfl, b, _, _, _, rfl, rfl, SqT.of eb, at1, ap, _, rfl, .inr (SqT.of ep), _, _, rfl, rfl, ap, _, _, _, rfl, rfl, SqT.of ep, atI_end, ?_⟩
      refine ⟨_, rfl, b, _, _, _, rfl, rfl, SqT.of eb, at0, rfl, _, rfl, iteFb (strF (by decide +kernel)) ?_⟩
      refine ⟨_, rfl, b, _, _, _, rfl, rfl, SqT.of eb, at0, rfl, _, rfl, iteFb (strF (by decide +kernel)) ?_⟩
      refine ⟨_, rfl, b, _, _, _, rfl, rfl, SqT.of eb, at0, rfl, _, rfl, iteTb strTr ?_⟩
      have l0 := name_len f2
      have l1 := numS_nat f5
      have l2 := numS_len f6
      have lw := Nd.wr_len (.input p tag ow c v) fn0
      have ew : T ++ "<" ++ wName (lastN p) ++ " " ++ tag ++ " " ++ numS (c : Int) ++ " " ++ numS v ++ ">" = T ++ (Nd.input p tag ow c v).wr := by simp only [Nd.wr, assA]
      refine ⟨_, rfl, o, _, _, _, rfl, rfl, SqL.of ho1, at0, _, _, rfl, rfl, szT (by rw [s13]; omega), _, rfl, lastN p, _, rfl, tl', f2, f3, fun H1' o1' => ?_⟩
      have ho1' := o1'.keep o _ (by simp) ho1
      have hL1' := o1'.keep L _ (by simp) hL1
      have eb' := o1'.tup _ _ eb
      refine ⟨T ++ "<", wName (lastN p), rfl, rfl, szT (by rw [lenA, s13]; omega), T ++ "<" ++ wName (lastN p), _, rfl, rfl, szT (by simp only [lenA, s13, s5]; omega), _, rfl, b, _, _, _, rfl, rfl, SqT.of eb', at2, T ++ "<" ++ wName (lastN p) ++ " ", tag, rfl, rfl, szT (by simp only [lenA, s13, s5]; omega), T ++ "<" ++ wName (lastN p) ++ " " ++ tag, _, rfl, rfl, szT (by simp only [lenA, s13, s5]; omega), _, rfl, b, _, _, _, rfl, rfl, SqT.of eb', at4, _, rfl, natAbs_nat f5, T ++ "<" ++ wName (lastN p) ++ " " ++ tag ++ " ", numS (c : Int), rfl, rfl, szT (by simp only [lenA, s13, s5]; omega), T ++ "<" ++ wName (lastN p) ++ " " ++ tag ++ " " ++ numS (c : Int), _, rfl, rfl, szT (by simp only [lenA, s13, s5]; omega), _, rfl, b, _, _, _, rfl, rfl, SqT.of eb', at5, _, rfl, natAbs_log f6, T ++ "<" ++ wName (lastN p) ++ " " ++ tag ++ " " ++ numS (c : Int) ++ " ", numS v, rfl, rfl, szT (by simp only [lenA, s13, s5]; omega), T ++ "<" ++ wName (lastN p) ++ " " ++ tag ++ " " ++ numS (c : Int) ++ " " ++ numS v, _, rfl, rfl, szT (by simp only [lenA, s13, s5, s14]; omega), ?_⟩
      rw [ew]
      refine ⟨_, rfl, o, _, 0, 0, rfl, rfl, ho1', rfl, ?_⟩
      rw [set0]
      obtain ⟨oo', ho2⟩ := putO (B := T ++ (Nd.input p tag ow c v).wr) ho1'
      have oo : Oth [o, L] H1 _ := (o1'.mono (by simp)).trans oo'
      have hL2 : (upd H1' o (.lst [.str (T ++ (Nd.input p tag ow c v).wr), .ref L])) L = some (.lst (us ++ ms)) := by rw [upd_ne noL.symm]; exact hL1'
      have eb2 := oo.tup _ _ eb
      have p12 := p1.oth oo
      generalize upd H1' o (.lst [.str (T ++ (Nd.input p tag ow c v).wr), .ref L]) = H2 at oo ho2 hL2 eb2 p12
      refine ⟨_, rfl, o, _, _, _, rfl, rfl, SqL.of ho2, at1, .inl ⟨rfl, _, SqL.of hL2⟩, _, rfl, b, _, _, _, rfl, rfl, SqT.of eb2, at1, _, rfl, o, _, _, _, rfl, rfl, SqL.of ho2, at0, T ++ (Nd.input p tag ow c v).wr, rfl, szT (by rw [lenA]; omega), sz, fun t1 ht1 => ?_⟩
      have ot := Oth.new (S := []) (o := .tup [.ref ap, .int (((T ++ (Nd.input p tag ow c v).wr).length : Nat) : Int)]) ht1
      have hL3 := ot.keep L _ (by simp) hL2
      have ho3 := ot.keep o _ (by simp) ho2
      have oL : Oth [o, L] _ (upd (upd H2 t1 (.tup [.ref ap, .int (((T ++ (Nd.input p tag ow c v).wr).length : Nat) : Int)])) L (.lst (us ++ ms ++ [.ref t1]))) := Oth.put (by simp) hL3
      refine ⟨L, _, _, rfl, rfl, hL3, Nat.lt_of_le_of_lt (by rw [List.length_append]; omega : (us ++ ms).length ≤ 200000) (by decide), ?_⟩
      refine fin _ [.ref t1] _ _ (by rw [upd_ne noL]; exact ho3) upd_same (.cons ?_ .nil) (oo.trans ((ot.mono (by simp)).trans oL))
      show IsT _ (mkT (p, T.length + (Nd.input p tag ow c v).wr.length)) _
      have e5 : T.length + (Nd.input p tag ow c v).wr.length = (T ++ (Nd.input p tag ow c v).wr).length := (lenA _ _).symm
      have : IsT _ (mkT (p, (T ++ (Nd.input p tag ow c v).wr).length)) (.ref t1) := .mk2 (oL.tup _ _ upd_same) ((p12.oth ot).oth oL) (.int _)
      exact Eq.mpr (congrArg (fun m => IsT _ (mkT (p, m)) (.ref t1)) e5) this
    | box p tag ow act inner =>
      obtain ⟨b, _, v1, v2, v3, v4, v5, rfl, eb, p0, p1, p2, p3, p4, p5⟩ := IsT.inv6 tn
      obtain rfl := p0.of_str
      obtain rfl := p2.of_str
      simp only [Nd.ht] at hhn
      simp only [Nd.cnt] at split lT
      obtain ⟨f1, f2, f3, f4, f5, f6⟩ := fn
      obtain ⟨ap, xp, y, rfl, ep, tl'⟩ := path_last p1 f1
      have l0 := name_len f2
      have l1 := act_len f5
      have l2 := Nd.wrs_len inner f6
      refine ⟨_, rfl, b, _, _, _, rfl, rfl, SqT.of eb, at1, _, rfl, b, _, _, _, rfl, rfl, SqT.of eb, at1, ap, _, rfl, .inr (SqT.of ep), _, _, rfl, rfl, ap, _, _, _, rfl, rfl, SqT.of ep, atI_end, ?_⟩
      refine ⟨_, rfl, b, _, _, _, rfl, rfl, SqT.of eb, at0, rfl, _, rfl, iteFb (strF (by decide +kernel)) ?_⟩
      refine ⟨_, rfl, b, _, _, _, rfl, rfl, SqT.of eb, at0, rfl, _, rfl, iteFb (strF (by decide +kernel)) ?_⟩
      refine ⟨_, rfl, b, _, _, _, rfl, rfl, SqT.of eb, at0, rfl, _, rfl, iteFb (strF (by decide +kernel)) ?_⟩
      refine ⟨_, rfl, b, _, _, _, rfl, rfl, SqT.of eb, at0, rfl, _, rfl, iteTb strTr ?_⟩
      refine ⟨fun σ H2 => σ = [some (.ref a), some (.ref o), some (.ref b), some y, some (.str (wAct act))] ∧ H2 = H1, ?_, ?_⟩
      · cases act with
        | none =>
          obtain rfl := p4.of_non
          exact ⟨_, rfl, b, _, _, _, rfl, rfl, SqT.of eb, at4, rfl, _, rfl, iteF ⟨rfl, rfl⟩⟩
        | some m =>
          obtain rfl := p4.of_int
          exact ⟨_, rfl, b, _, _, _, rfl, rfl, SqT.of eb, at4, rfl, _, rfl, iteT ⟨_, rfl, b, _, _, _, rfl, rfl, SqT.of eb, at4, _, rfl, natAbs_nat (f5 m rfl), rfl, rfl⟩⟩
      rintro σ H2' ⟨rfl, rfl⟩
      have lhd : (headB p tag act).length ≤ 110 := by unfold headB; simp only [lenA, s5, s11]; omega
      have eh : T ++ "(" ++ wName (lastN p) ++ " " ++ tag ++ " " ++ wAct act ++ " " = T ++ headB p tag act := by unfold headB; simp only [assA]
      refine ⟨_, rfl, o, _, _, _, rfl, rfl, SqL.of ho1, at0, _, _, rfl, rfl, szT (by rw [s11]; omega), _, rfl, lastN p, _, rfl, tl', f2, f3, fun H1' o1' => ?_⟩
      have ho1' := o1'.keep o _ (by simp) ho1
      have hL1' := o1'.keep L _ (by simp) hL1
      have eb' := o1'.tup _ _ eb
      refine ⟨T ++ "(", wName (lastN p), rfl, rfl, szT (by rw [lenA, s11]; omega), T ++ "(" ++ wName (lastN p), _, rfl, rfl, szT (by simp only [lenA, s11, s5]; omega), _, rfl, b, _, _, _, rfl, rfl, SqT.of eb', at2, T ++ "(" ++ wName (lastN p) ++ " ", tag, rfl, rfl, szT (by simp only [lenA, s11, s5]; omega), T ++ "(" ++ wName (lastN p) ++ " " ++ tag, _, rfl, rfl, szT (by simp only [lenA, s11, s5]; omega), _, rfl, T ++ "(" ++ wName (lastN p) ++ " " ++ tag ++ " ", wAct act, rfl, rfl, szT (by simp only [lenA, s11, s5]; omega), T ++ "(" ++ wName (lastN p) ++ " " ++ tag ++ " " ++ wAct act, _, rfl, rfl, szT (by simp only [lenA, s11, s5]; omega), ?_⟩
      rw [eh]
      refine ⟨_, rfl, o, _, 0, 0, rfl, rfl, ho1', rfl, ?_⟩
      rw [set0]
      obtain ⟨oo', ho2⟩ := putO (B := T ++ headB p tag act) ho1'
      have oo : Oth [o, L] H2' _ := (o1'.mono (by simp)).trans oo'
      have hL2 : (upd H1' o (.lst [.str (T ++ headB p tag act), .ref L])) L = some (.lst (us ++ ms)) := by rw [upd_ne noL.symm]; exact hL1'
      have eb2 := oo.tup _ _ eb
      have p12 := p1.oth oo
      have p52 := p5.oth oo
      generalize upd H1' o (.lst [.str (T ++ headB p tag act), .ref L]) = H2 at oo ho2 hL2 eb2 p12 p52
      refine ⟨_, rfl, o, _, _, _, rfl, rfl, SqL.of ho2, at1, .inl ⟨rfl, _, SqL.of hL2⟩, _, rfl, b, _, _, _, rfl, rfl, SqT.of eb2, at1, _, rfl, o, _, _, _, rfl, rfl, SqL.of ho2, at0, T ++ headB p tag act, rfl, szT (by rw [lenA]; omega), sz, fun t1 ht1 => ?_⟩
      have ot := Oth.new (S := []) (o := .tup [.ref ap, .int (((T ++ headB p tag act).length : Nat) : Int)]) ht1
      have hL3 := ot.keep L _ (by simp) hL2
      have ho3 := ot.keep o _ (by simp) ho2
      have oL : Oth [o, L] _ (upd (upd H2 t1 (.tup [.ref ap, .int (((T ++ headB p tag act).length : Nat) : Int)])) L (.lst (us ++ ms ++ [.ref t1]))) := Oth.put (by simp) hL3
      refine ⟨L, _, _, rfl, rfl, hL3, Nat.lt_of_le_of_lt (by rw [List.length_append]; omega : (us ++ ms).length ≤ 200000) (by decide), ?_⟩
      have t1at : IsT _ (mkT (p, T.length + (headB p tag act).length)) (.ref t1) := .mk2 (by rw [← lenA]; exact oL.tup _ _ upd_same) ((p12.oth ot).oth oL) (.int _)
      have ho4 : (upd (upd H2 t1 (.tup [.ref ap, .int (((T ++ headB p tag act).length : Nat) : Int)])) L (.lst (us ++ ms ++ [.ref t1]))) o = some (.lst [.str (T ++ headB p tag act), .ref L]) := by rw [upd_ne noL]; exact ho3
      have hL4 : (upd (upd H2 t1 (.tup [.ref ap, .int (((T ++ headB p tag act).length : Nat) : Int)])) L (.lst (us ++ ms ++ [.ref t1]))) L = some (.lst (us ++ ms ++ [.ref t1])) := upd_same
      have o4 : Oth [o, L] H2' _ := oo.trans ((ot.mono (by simp)).trans oL)
      have eb4 := (ot.trans (Oth.refl)).tup _ _ eb2 |> oL.tup _ _
      have p54 := (p52.oth ot).oth oL
      generalize upd (upd H2 t1 (.tup [.ref ap, .int (((T ++ headB p tag act).length : Nat) : Int)])) L (.lst (us ++ ms ++ [.ref t1])) = H4 at t1at ho4 hL4 o4 eb4 p54
      refine ⟨_, rfl, b, _, _, _, rfl, rfl, SqT.of eb4, at5, _, rfl, inner, _, o, L, T ++ headB p tag act, us ++ ms ++ [.ref t1], rfl, p54, ho4, hL4, noL, f6, by omega, by omega, by rw [lenA]; omega, by rw [List.length_append, List.length_append, List.length_singleton]; omega, fun H6 ms6 ho6 hL6 pm6 o6 => ?_⟩
      have ew : T ++ headB p tag act ++ Nd.wrs inner ++ ")" = T ++ (Nd.box p tag ow act inner).wr := by rw [wr_box]; simp only [assA]
      refine ⟨_, rfl, o, _, _, _, rfl, rfl, SqL.of ho6, at0, _, _, rfl, rfl, szT (by rw [lenA, lenA, s12]; omega), ?_⟩
      rw [ew]
      refine ⟨_, rfl, o, _, 0, 0, rfl, rfl, ho6, rfl, ?_⟩
      rw [set0]
      obtain ⟨oo7, ho7⟩ := putO (B := T ++ (Nd.box p tag ow act inner).wr) ho6
      refine fin _ (.ref t1 :: ms6) _ _ ho7 (by rw [upd_ne noL.symm, hL6]; simp) ?_ (o4.trans (o6.trans oo7))
      rw [lenA] at pm6
      exact .cons ((t1at.oth o6).oth oo7) (paired_oth pm6 oo7)
    | child p c ps rs inner =>
      obtain ⟨b, _, v1, v2, v3, v4, v5, rfl, eb, p0, p1, p2, p3, p4, p5⟩ := IsT.inv6 tn
      obtain rfl := p0.of_str
      obtain rfl := p2.of_int
      simp only [Nd.ht] at hhn
      simp only [Nd.cnt] at split lT
      obtain ⟨f1, f2, f3, f4, f5, f6, f7, f8⟩ := fn
      obtain ⟨ap, xp, y, rfl, ep, tl'⟩ := path_last p1 f1
      have l0 := name_len f2
      have l1 := numS_nat f3
      have l2 := Nd.wrs_len inner f8
      have l3 := nums_len f4
      have l4 := nums_len f6
      refine ⟨_, rfl, b, _, _, _, rfl, rfl, SqT.of eb, at1, _, rfl, b, _, _, _, rfl, rfl, SqT.of eb, at1, ap, _, rfl, .inr (SqT.of ep), _, _, rfl, rfl, ap, _, _, _, rfl, rfl, SqT.of ep, atI_end, ?_⟩
      refine ⟨_, rfl, b, _, _, _, rfl, rfl, SqT.of eb, at0, rfl, _, rfl, iteFb (strF (by decide +kernel)) ?_⟩
      refine ⟨_, rfl, b, _, _, _, rfl, rfl, SqT.of eb, at0, rfl, _, rfl, iteFb (strF (by decide +kernel)) ?_⟩
      refine ⟨_, rfl, b, _, _, _, rfl, rfl, SqT.of eb, at0, rfl, _, rfl, iteFb (strF (by decide +kernel)) ?_⟩
      refine ⟨_, rfl, b, _, _, _, rfl, rfl, SqT.of eb, at0, rfl, _, rfl, iteFb (strF (by decide +kernel)) ?_⟩
      have ew : T ++ headC p c ps rs ++ Nd.wrs inner ++ tailC p = T ++ (Nd.child p c ps rs inner).wr := by rw [wr_child]; simp only [assA]
      have two : (∃ (an : Addr) (tg : Str) (zs : List V), y = .ref an ∧ H1 an = some (.tup (.str tg :: zs)) ∧ tg ≠ "part" ∧ (lastN p).isPart = false ∧ headC p c ps rs = "[" ++ wName (lastN p) ++ " " ++ numS (c : Int) ++ " " ++ wNums ps ++ " " ++ wNums rs ++ " ") ∨ ∃ kk, lastN p = .part kk := by
        cases e : lastN p with
        | «at» t i =>
          rw [e] at tl'
          obtain ⟨a, x1, x2, x3, rfl, ea, q1, _⟩ := IsT.inv3 tl'
          obtain rfl := q1.of_str
          exact .inl ⟨a, _, _, rfl, ea, by decide +kernel, rfl, by unfold headC; rw [e]⟩
        | key t v =>
          rw [e] at tl'
          obtain ⟨a, x1, x2, x3, rfl, ea, q1, _⟩ := IsT.inv3 tl'
          obtain rfl := q1.of_str
          exact .inl ⟨a, _, _, rfl, ea, by decide +kernel, rfl, by unfold headC; rw [e]⟩
        | part kk => exact .inr ⟨kk, rfl⟩
      rcases two with ⟨an, tg, zs, rfl, ean, hne, np, eh0⟩ | ⟨kk, ek⟩
      · refine ⟨_, rfl, an, _, _, _, rfl, rfl, SqT.of ean, at0, rfl, _, rfl, iteFb (strF hne) ?_⟩
        have lhd : (headC p c ps rs).length ≤ 115 := by rw [eh0]; simp only [lenA, s5, s9]; omega
        have et : tailC p = "]" := by unfold tailC; rw [np]; rfl
        have eh : T ++ "[" ++ wName (lastN p) ++ " " ++ numS (c : Int) ++ " " ++ wNums ps ++ " " ++ wNums rs ++ " " = T ++ headC p c ps rs := by rw [eh0]; simp only [assA]
        refine ⟨_, rfl, o, _, _, _, rfl, rfl, SqL.of ho1, at0, _, _, rfl, rfl, szT (by rw [s9]; omega), _, rfl, lastN p, _, rfl, tl', f2, np, fun H1' o1' => ?_⟩
        have ho1' := o1'.keep o _ (by simp) ho1
        have hL1' := o1'.keep L _ (by simp) hL1
        have eb' := o1'.tup _ _ eb
        refine ⟨T ++ "[", wName (lastN p), rfl, rfl, szT (by rw [lenA, s9]; omega), T ++ "[" ++ wName (lastN p), _, rfl, rfl, szT (by simp only [lenA, s9, s5]; omega), _, rfl, b, _, _, _, rfl, rfl, SqT.of eb', at2, _, rfl, natAbs_nat f3, T ++ "[" ++ wName (lastN p) ++ " ", numS (c : Int), rfl, rfl, szT (by simp only [lenA, s9, s5]; omega), T ++ "[" ++ wName (lastN p) ++ " " ++ numS (c : Int), _, rfl, rfl, szT (by simp only [lenA, s9, s5]; omega), ?_⟩
        refine ⟨_, rfl, o, _, 0, 0, rfl, rfl, ho1', rfl, ?_⟩
        rw [set0]
        obtain ⟨oo', ho2⟩ := putO (B := T ++ "[" ++ wName (lastN p) ++ " " ++ numS (c : Int) ++ " ") ho1'
        have oo : Oth [o, L] H1 _ := (o1'.mono (by simp)).trans oo'
        have hL2 : (upd H1' o (.lst [.str (T ++ "[" ++ wName (lastN p) ++ " " ++ numS (c : Int) ++ " "), .ref L])) L = some (.lst (us ++ ms)) := by rw [upd_ne noL.symm]; exact hL1'
        have eb2 := oo.tup _ _ eb
        have p32 := p3.oth oo
        have p42 := p4.oth oo
        have p52 := p5.oth oo
        have ho2x : (upd H1' o (.lst [.str (T ++ "[" ++ wName (lastN p) ++ " " ++ numS (c : Int) ++ " "), .ref L])) o = some (.lst [.str (T ++ "[" ++ wName (lastN p) ++ " " ++ numS (c : Int) ++ " "), .ref L]) := ho2
        generalize upd H1' o (.lst [.str (T ++ "[" ++ wName (lastN p) ++ " " ++ numS (c : Int) ++ " "), .ref L]) = H2 at oo ho2 ho2x hL2 eb2 p32 p42 p52
        refine ⟨_, rfl, o, _, _, _, rfl, rfl, SqL.of ho2, at0, _, rfl, b, _, _, _, rfl, rfl, SqT.of eb2, at3, ps, _, rfl, p32, f4, by omega, fun H3 o3 => ⟨T ++ "[" ++ wName (lastN p) ++ " " ++ numS (c : Int) ++ " ", wNums ps, rfl, rfl, szT (by simp only [lenA, s9, s5]; omega), T ++ "[" ++ wName (lastN p) ++ " " ++ numS (c : Int) ++ " " ++ wNums ps, _, rfl, rfl, szT (by simp only [lenA, s9, s5]; omega), _, rfl, b, _, _, _, rfl, rfl, SqT.of (o3.tup _ _ eb2), at4, rs, _, rfl, p42.oth o3, f6, by omega, fun H3' o3' => ?_⟩⟩
        have o33 := o3.trans o3'
        have ho3 := o33.keep o _ (by simp) ho2
        have hL3 := o33.keep L _ (by simp) hL2
        refine ⟨T ++ "[" ++ wName (lastN p) ++ " " ++ numS (c : Int) ++ " " ++ wNums ps ++ " ", wNums rs, rfl, rfl, szT (by simp only [lenA, s9, s5]; omega), T ++ "[" ++ wName (lastN p) ++ " " ++ numS (c : Int) ++ " " ++ wNums ps ++ " " ++ wNums rs, _, rfl, rfl, szT (by simp only [lenA, s9, s5]; omega), ?_⟩
        rw [eh]
        refine ⟨_, rfl, o, _, 0, 0, rfl, rfl, ho3, rfl, ?_⟩
        rw [set0]
        obtain ⟨oo4, ho4⟩ := putO (B := T ++ headC p c ps rs) ho3
        have o4 : Oth [o, L] H1 _ := oo.trans ((o33.mono (by simp)).trans oo4)
        have hL4 : (upd H3' o (.lst [.str (T ++ headC p c ps rs), .ref L])) L = some (.lst (us ++ ms)) := by rw [upd_ne noL.symm]; exact hL3
        have eb4 := o4.tup _ _ eb
        have p54 := p5.oth o4
        generalize upd H3' o (.lst [.str (T ++ headC p c ps rs), .ref L]) = H4 at o4 ho4 hL4 eb4 p54
        refine ⟨_, rfl, b, _, _, _, rfl, rfl, SqT.of eb4, at5, _, rfl, inner, _, o, L, T ++ headC p c ps rs, us ++ ms, rfl, p54, ho4, hL4, noL, f8, by omega, by omega, by rw [lenA]; omega, by rw [List.length_append]; omega, fun H6 ms6 ho6 hL6 pm6 o6 => ?_⟩
        refine ⟨_, rfl, o, _, _, _, rfl, rfl, SqL.of ho6, at0, _, _, rfl, rfl, szT (by rw [lenA, lenA, s10]; omega), ?_⟩
        rw [← et, ew]
        refine ⟨_, rfl, o, _, 0, 0, rfl, rfl, ho6, rfl, ?_⟩
        rw [set0]
        obtain ⟨oo7, ho7⟩ := putO (B := T ++ (Nd.child p c ps rs inner).wr) ho6
        refine fin _ ms6 _ _ ho7 (by rw [upd_ne noL.symm, hL6]) ?_ (o4.trans (o6.trans oo7))
        rw [lenA] at pm6
        exact paired_oth pm6 oo7
      · rw [ek] at tl' f2
        obtain ⟨an, x1, x2, rfl, ean, q1, q2⟩ := IsT.inv2 tl'
        obtain rfl := q1.of_str
        obtain rfl := q2.of_int
        refine ⟨_, rfl, an, _, _, _, rfl, rfl, SqT.of ean, at0, rfl, _, rfl, iteTb strTr ?_⟩
        have l5 := numS_nat f2
        have eh0 : headC p c ps rs = "{" ++ numS (kk : Int) ++ ":" ++ wNums rs ++ " " := by unfold headC; rw [ek]
        have lhd : (headC p c ps rs).length ≤ 115 := by rw [eh0]; simp only [lenA, s5, s6, s7]; omega
        have et : tailC p = "}" := by unfold tailC; rw [ek]; rfl
        have eh : T ++ "{" ++ numS (kk : Int) ++ ":" ++ wNums rs ++ " " = T ++ headC p c ps rs := by rw [eh0]; simp only [assA]
        refine ⟨_, rfl, o, _, _, _, rfl, rfl, SqL.of ho1, at0, _, _, rfl, rfl, szT (by rw [s6]; omega), _, rfl, an, _, _, _, rfl, rfl, SqT.of ean, at1, _, rfl, natAbs_nat f2, T ++ "{", numS (kk : Int), rfl, rfl, szT (by rw [lenA, s6]; omega), T ++ "{" ++ numS (kk : Int), _, rfl, rfl, szT (by rw [lenA, lenA, s6, s7]; omega), _, rfl, b, _, _, _, rfl, rfl, SqT.of eb, at4, rs, _, rfl, p4, f6, by omega, fun H3 o3 => ?_⟩
        have ho3 := o3.keep o _ (by simp) ho1
        have hL3 := o3.keep L _ (by simp) hL1
        refine ⟨T ++ "{" ++ numS (kk : Int) ++ ":", wNums rs, rfl, rfl, szT (by simp only [lenA, s6, s7]; omega), T ++ "{" ++ numS (kk : Int) ++ ":" ++ wNums rs, _, rfl, rfl, szT (by simp only [lenA, s6, s7, s5]; omega), ?_⟩
        rw [eh]
        refine ⟨_, rfl, o, _, 0, 0, rfl, rfl, ho3, rfl, ?_⟩
        rw [set0]
        obtain ⟨oo4, ho4⟩ := putO (B := T ++ headC p c ps rs) ho3
        have o4 : Oth [o, L] H1 _ := (o3.mono (by simp)).trans oo4
        have hL4 : (upd H3 o (.lst [.str (T ++ headC p c ps rs), .ref L])) L = some (.lst (us ++ ms)) := by rw [upd_ne noL.symm]; exact hL3
        have eb4 := o4.tup _ _ eb
        have p54 := p5.oth o4
        generalize upd H3 o (.lst [.str (T ++ headC p c ps rs), .ref L]) = H4 at o4 ho4 hL4 eb4 p54
        refine ⟨_, rfl, b, _, _, _, rfl, rfl, SqT.of eb4, at5, _, rfl, inner, _, o, L, T ++ headC p c ps rs, us ++ ms, rfl, p54, ho4, hL4, noL, f8, by omega, by omega, by rw [lenA]; omega, by rw [List.length_append]; omega, fun H6 ms6 ho6 hL6 pm6 o6 => ?_⟩
        refine ⟨_, rfl, o, _, _, _, rfl, rfl, SqL.of ho6, at0, _, _, rfl, rfl, szT (by rw [lenA, lenA, s8]; omega), ?_⟩
        rw [← et, ew]
        refine ⟨_, rfl, o, _, 0, 0, rfl, rfl, ho6, rfl, ?_⟩
        rw [set0]
        obtain ⟨oo7, ho7⟩ := putO (B := T ++ (Nd.child p c ps rs inner).wr) ho6
        refine fin _ ms6 _ _ ho7 (by rw [upd_ne noL.symm, hL6]) ?_ (o4.trans (o6.trans oo7))
        rw [lenA] at pm6
        exact paired_oth pm6 oo7
  · obtain ⟨x2, x3, x4, ms, rfl, ho1, hL1, pm1, o1⟩ := hW
    rw [lx, List.take_length] at ho1 pm1
    exact q H1 ms ho1 hL1 pm1 o1
end
abbrev sLPage : Stmt := topS 60
abbrev sLEvery : Stmt := topS 62
abbrev sLPart : Stmt := topS 61
theorem scLPage : FnScope ["page", "out"] ["page"] (defScope sLPage) := ⟨rfl, rfl, rfl, by decide +kernel, rfl, by decide +kernel, by decide +kernel⟩
theorem scLEvery : FnScope ["nodes", "rows", "node"] ["nodes"] (defScope sLEvery) := ⟨rfl, rfl, rfl, by decide +kernel, rfl, by decide +kernel, by decide +kernel⟩
theorem scLPart : FnScope ["program", "first", "k", "seed", "row", "out", "j"] ["program", "first", "k"] (defScope sLPart) := ⟨rfl, rfl, rfl, by decide +kernel, rfl, by decide +kernel, by decide +kernel⟩
section
variable {P : Program} {w : World} {K : PySem.W.Frag} {mg : Str → Option Value} {base : Heap}
theorem ok_lpage {f fW fN : Addr} {fd dW dN : FuncData} {k n : Nat} (F : Fun K "_law_page_text" "_law_page_text" sLPage f fd)
    (GLwr : FnOk P w K mg base CX0 k fW dW ["nodes", "out"] (spLWrite n)) (bLwr : Binds K dW ["nodes", "out"] []) (kLwr : PySem.W.keepIn K (.ref fW) = true) (mLwr : mg "_law_write" = some (.ref fW))
    (GLnu : FnOk P w K mg base CX0 k fN dN ["row"] spNums) (bLnu : Binds K dN ["row"] []) (kLnu : PySem.W.keepIn K (.ref fN) = true) (mLnu : mg "_law_numbers" = some (.ref fN)) :
    FnOk P w K mg base CX0 (k + 1) f fd ["page"] (spLPage n) := by
  refine F.ok scLPage (fun vs H Q E h => ?_) (fun cdv A outer s H vs Q E' hr h => ?_)
  · obtain ⟨p, c, ps, rs, ns, v, rfl, _⟩ := h
    rfl
  obtain ⟨p, c, ps, rs, ns, v, rfl, tv, sr, lr, fit, hc, hh, q⟩ := h
  have nd := scLPage.nd
  refine ⟨_, (pss_cons (ps_set (i := 1) nd rfl (.inl rfl) (pe_lst (pa_cons (pe_op op_add_str (pe_call GLnu hr rfl mLnu kLnu bLnu .nil pass0 (pa_cons (pe_ix ix_tup (pv 0) pe_int (fun _ _ => rfl)) pa_nil)) pe_str) (pa_cons (pe_lst pa_nil) pa_nil))))
  (pss_cons (ps_expr (pe_call GLwr hr rfl mLwr kLwr bLwr .nil pass0 (pa_cons (pe_ix ix_tup (pv 0) pe_int (fun _ _ => rfl)) (pa_cons (pv 1) pa_nil))))
  (pss_one (ps_ret (pe_lst (pa_cons (pe_op op_add_str (pe_ix ix_list (pv 1) pe_int (fun _ _ => rfl)) pe_str) (pa_cons (pe_ix ix_list (pv 1) pe_int (fun _ _ => rfl)) pa_nil))))))), ?_⟩
  obtain ⟨b, _, v1, v2, v3, v4, v5, rfl, eb, p0, p1, p2, p3, p4, p5⟩ := IsT.inv6 tv
  have l1 := nums_len sr
  have l2 := Nd.wrs_len ns fit
  obtain ⟨_, _, _, _, s5, _, _, _, _, _, _, _, _, _, _, s16⟩ := sign1
  refine ⟨_, rfl, b, _, _, _, rfl, rfl, SqT.of eb, at4, rs, _, rfl, p4, sr, by omega, fun H1 o1 => ⟨_, _, rfl, rfl, szT (by rw [s5]; omega), sz, fun L hL => ⟨sz, fun o ho => ?_⟩⟩⟩
  have oL := Oth.new (S := []) (o := .lst []) hL
  have oo := Oth.new (S := []) (o := .lst [.str (wNums rs ++ " "), .ref L]) ho
  have nL : L ≠ o := ne_of_none (upd_same : (upd H1 L (.lst [])) L = _) ho
  have o13 := o1.trans (oL.trans oo)
  refine ⟨_, rfl, b, _, _, _, rfl, rfl, SqT.of (o13.tup _ _ eb), at5, _, rfl, ns, _, o, L, wNums rs ++ " ", [], rfl, p5.oth o13, upd_same, oo.keep L _ (by simp) upd_same, nL.symm, fit, hh, hc, by rw [lenA, s5]; omega, by simp; omega, fun H4 ms ho4 hL4 pm4 o4 => ?_⟩
  refine ⟨_, rfl, o, _, _, _, rfl, rfl, SqL.of ho4, at0, _, _, rfl, rfl, szT (by rw [lenA, lenA, s5, s16]; omega), _, rfl, o, _, _, _, rfl, rfl, SqL.of ho4, at1, sz, fun r hr' => ?_⟩
  have or := Oth.new (S := []) (o := .lst [.str (wNums rs ++ " " ++ Nd.wrs ns ++ "!"), .ref L]) hr'
  have hLn : (upd H1 L (.lst ([] : List V))) o = none := ho
  have ho0 : H o = none := by
    cases e : H o with
    | none => rfl
    | some z => rw [oL.keep o _ (by simp) (o1.keep o _ (by simp) e)] at hLn; cases hLn
  have hL0 : H L = none := by
    cases e : H L with
    | none => rfl
    | some z => rw [o1.keep L _ (by simp) e] at hL; cases hL
  have oall : Oth [] H H4 := Oth.drop (Oth.drop ((o13.mono (S' := [o, L]) (by simp)).trans o4) ho0) hL0
  have hr0 : H r = none := by
    cases e : H r with
    | none => rfl
    | some z => rw [oall.keep r _ (by simp) e] at hr'; cases hr'
  rw [lenA, s5] at pm4
  exact q r L ms _ hr0 upd_same (or.keep L _ (by simp) (by simpa using hL4)) (paired_oth pm4 or) (oall.trans or)
theorem ok_levery {f : Addr} {fd : FuncData} {k n : Nat} (F : Fun K "_law_every" "_law_every" sLEvery f fd)
    (GLev : FnOk P w K mg base CX0 k f fd ["nodes"] (spLEvery n)) (bLev : Binds K fd ["nodes"] []) (kLev : PySem.W.keepIn K (.ref f) = true) (mLev : mg "_law_every" = some (.ref f)) :
    FnOk P w K mg base CX0 (k + 1) f fd ["nodes"] (spLEvery (n + 1)) := by
  refine F.ok scLEvery (fun vs H Q E h => ?_) (fun cdv A outer s H vs Q E' hr h => ?_)
  · obtain ⟨ns, v, rfl, _⟩ := h
    rfl
  obtain ⟨ns, v, rfl, tv, hh, hc, q⟩ := h
  have nd := scLEvery.nd
  refine ⟨_, (pss_cons (ps_set (i := 1) nd rfl (.inl rfl) (pe_lst pa_nil))
  (pss_cons (ps_for PassesOwn.never rfl (pi_tup (pv 0)) (pg_name (i := 2) nd rfl (.inl rfl))
  (pss_one (ps_if (pt_cmpR op_in_seq (pe_ix ix_tup (pv 2) pe_int (fun _ _ => rfl)) (pe_lst (pa_cons pe_str (pa_cons pe_str pa_nil))) (by rfl))
  (pss_cut (ps_if (pt_cmpR op_eq (pe_ix ix_tup (pv 2) pe_int (fun _ _ => rfl)) pe_str (nomark _))
  (pss_one (ps_expr (pe_bm PySem.F.plainAttrs_list PySem.F.slot_list_append PySem.F.type_list_append mt_append (pv 1) (pa_cons (pv 2) pa_nil))))
  pss_nil)
  (pss_one (ps_set (i := 1) nd rfl (.inl rfl) (pe_op op_cat (pv 1) (pe_call GLev hr rfl mLev kLev bLev .nil pass0 (pa_cons (pe_ix ix_tup (pv 2) pe_int (fun _ _ => rfl)) pa_nil))))))
  pss_nil)))
  (pss_one (ps_ret (pv 1))))), ?_⟩
  obtain ⟨a, xs, rfl, ea, pa⟩ := tv.inv
  have lx : xs.length = ns.length := by rw [(paired_get pa).1, Nd.toTs_map, List.length_map]
  refine ⟨sz, fun p0 hp0 => ?_⟩
  have o0 := Oth.new (S := []) (o := .lst []) hp0
  refine ⟨_, rfl, a, rfl, ⟨xs, SqT.of (o0.tup _ _ ea)⟩, for_tup (xs := xs)
    (fun j σ H1 => ∃ (x2 : Option V) (p : Addr) (out : List V), σ = [some (.ref a), some (.ref p), x2] ∧ H p = none ∧ Oth [] H H1 ∧ H1 p = some (.lst out) ∧ Paired (IsT H1) ((Nd.evs (ns.take j)).map Nd.toT) out)
    ⟨none, p0, [], rfl, hp0, o0, upd_same, .nil⟩ (fun j σ H1 _ hW => ?_) (fun j x σ H1 hx hW => ?_) (fun σ H1 hW => ?_)⟩
  · obtain ⟨_, _, _, _, _, o1, _⟩ := hW
    exact SqT.of (o1.tup _ _ ea)
  · obtain ⟨x2, p, out, rfl, hp, o1, hp1, po1⟩ := hW
    have hj : j < ns.length := by rw [← lx]; exact (List.getElem?_eq_some_iff.mp hx).1
    obtain ⟨nd1, gn⟩ : ∃ nd, ns[j]? = some nd := ⟨ns[j], List.getElem?_eq_getElem hj⟩
    have tn : IsT H1 nd1.toT x := ((paired_get pa).2 j _ _ (by rw [Nd.toTs_map, List.getElem?_map, gn]; rfl) hx).oth o1
    have mem := List.mem_of_getElem? gn
    have hcn := ncnts_mem mem
    have hhn := hts_mem mem
    have lout : out.length ≤ 80000 := by
      have h1 := (paired_get po1).1
      rw [List.length_map] at h1
      have h2 := Nd.evs_len (ns.take j)
      have h4 : Nd.cnts (ns.take j) ≤ Nd.cnts ns := by
        have e2 := congrArg Nd.cnts (List.take_append_drop j ns).symm
        rw [ncnts_app] at e2
        omega
      omega
    have more : ∀ (H9 : Hp) (p' : Addr) (zs : List V), H p' = none → Oth [] H H9 → H9 p' = some (.lst (out ++ zs)) → Paired (IsT H9) ((Nd.evs (ns.take j)).map Nd.toT) out → Paired (IsT H9) (nd1.ev.map Nd.toT) zs →
        ∃ (x2 : Option V) (p : Addr) (out' : List V), ([some (.ref a), some (.ref p'), some x] : L2.St) = [some (.ref a), some (.ref p), x2] ∧ H p = none ∧ Oth [] H H9 ∧ H9 p = some (.lst out') ∧ Paired (IsT H9) ((Nd.evs (ns.take (j + 1))).map Nd.toT) out' := fun H9 p' zs hp' o9 hp9 po9 pz => by
      refine ⟨_, p', out ++ zs, rfl, hp', o9, hp9, ?_⟩
      rw [take_snoc gn, evs_app, List.map_append]
      simp only [Nd.evs, List.append_nil]
      exact paired_app po9 pz
    have back : ∀ {H5 : Hp} {z : Addr}, Oth [] H H5 → H5 z = none → H z = none := fun {H5 z} o5 hz => by
      cases e : H z with
      | none => rfl
      | some o => rw [o5.keep z o (by simp) e] at hz; cases hz
    have cl : ∀ (l0 : Addr), H1 l0 = none → Oth [] H1 (upd H1 l0 (.lst [.str "child", .str "box"])) := fun l0 h => Oth.new h
    cases nd1 with
    | child q' c ps rs inner =>
      obtain ⟨b, _, v1, v2, v3, v4, v5, rfl, eb, p0', p1, p2, p3, p4, p5⟩ := IsT.inv6 tn
      obtain rfl := p0'.of_str
      simp only [Nd.ht] at hhn
      simp only [Nd.cnt] at hcn
      refine ⟨_, rfl, b, _, _, _, rfl, rfl, SqT.of eb, at0, sz, fun l0 hl0 => ⟨l0, _, rfl, .inl (SqL.of upd_same), rfl, rfl, _, rfl, iteTb (by decide) ?_⟩⟩
      have ol := cl l0 hl0
      have hp2 := ol.keep p _ (by simp) hp1
      refine ⟨fun σ' H' => σ' = [some (.ref a), some (.ref p), some (.ref b)] ∧ H' = upd (upd H1 l0 (.lst [.str "child", .str "box"])) p (.lst (out ++ [.ref b])), ?_, ?_⟩
      · refine ⟨_, rfl, b, _, _, _, rfl, rfl, SqT.of (ol.tup _ _ eb), at0, rfl, _, rfl, iteTb strTr ?_⟩
        exact ⟨_, rfl, .inl ⟨rfl, _, SqL.of hp2⟩, _, rfl, p, _, _, rfl, rfl, hp2, Nat.lt_of_le_of_lt lout (by decide), rfl, rfl⟩
      rintro σ' H' ⟨rfl, rfl⟩
      have op : Oth [p] _ (upd (upd H1 l0 (.lst [.str "child", .str "box"])) p (.lst (out ++ [.ref b]))) := Oth.put (by simp) hp2
      have o13 := (ol.mono (S' := [p]) (by simp)).trans op
      have o03 : Oth [] H _ := Oth.drop (p := p) ((o1.mono (by simp)).trans o13) hp
      have hp3 : (upd (upd H1 l0 (.lst [.str "child", .str "box"])) p (.lst (out ++ [.ref b]))) p = some (.lst (out ++ [.ref b])) := upd_same
      generalize upd (upd H1 l0 (.lst [.str "child", .str "box"])) p (.lst (out ++ [.ref b])) = H3 at op o13 o03 hp3
      refine ⟨_, rfl, _, rfl, b, _, _, _, rfl, rfl, SqT.of (o13.tup _ _ eb), at5, inner, _, rfl, p5.oth o13, by omega, by omega, fun pz zs H4 hpz ez wz o4 => ?_⟩
      have lzs : zs.length ≤ 80000 := by
        have h1 := (paired_get wz).1
        rw [List.length_map] at h1
        have := Nd.evs_len inner
        omega
      refine ⟨p, pz, _, _, rfl, rfl, o4.keep p _ (by simp) hp3, ez, Nat.le_trans (by simp; omega : (out ++ [V.ref b]).length + zs.length ≤ 160001) (by decide), fun r5 hr5 => ?_⟩
      have o5 := Oth.new (S := []) (o := .lst (out ++ [V.ref b] ++ zs)) hr5
      have o35 := o4.trans o5
      refine more _ r5 ([.ref b] ++ zs) (back (o03.trans o4) hr5) (o03.trans o35) (by rw [← List.append_assoc]; exact upd_same) (paired_oth (paired_oth po1 o13) o35) ?_
      simp only [Nd.ev, List.map_cons]
      exact .cons ((tn.oth o13).oth o35) (paired_oth wz o5)
    | box q' t o act inner =>
      obtain ⟨b, _, v1, v2, v3, v4, v5, rfl, eb, p0', p1, p2, p3, p4, p5⟩ := IsT.inv6 tn
      obtain rfl := p0'.of_str
      simp only [Nd.ht] at hhn
      simp only [Nd.cnt] at hcn
      refine ⟨_, rfl, b, _, _, _, rfl, rfl, SqT.of eb, at0, sz, fun l0 hl0 => ⟨l0, _, rfl, .inl (SqL.of upd_same), rfl, rfl, _, rfl, iteTb (by decide) ?_⟩⟩
      have ol := cl l0 hl0
      have hp2 := ol.keep p _ (by simp) hp1
      refine ⟨fun σ' H' => σ' = [some (.ref a), some (.ref p), some (.ref b)] ∧ H' = upd H1 l0 (.lst [.str "child", .str "box"]), ?_, ?_⟩
      · exact ⟨_, rfl, b, _, _, _, rfl, rfl, SqT.of (ol.tup _ _ eb), at0, rfl, _, rfl, iteFb (strF (by decide +kernel)) ⟨rfl, rfl⟩⟩
      rintro σ' H' ⟨rfl, rfl⟩
      refine ⟨_, rfl, _, rfl, b, _, _, _, rfl, rfl, SqT.of (ol.tup _ _ eb), at5, inner, _, rfl, p5.oth ol, by omega, by omega, fun pz zs H4 hpz ez wz o4 => ?_⟩
      have lzs : zs.length ≤ 80000 := by
        have h1 := (paired_get wz).1
        rw [List.length_map] at h1
        have := Nd.evs_len inner
        omega
      refine ⟨p, pz, _, _, rfl, rfl, o4.keep p _ (by simp) hp2, ez, Nat.le_trans (by omega : out.length + zs.length ≤ 160001) (by decide), fun r5 hr5 => ?_⟩
      have o5 := Oth.new (S := []) (o := .lst (out ++ zs)) hr5
      have o15 := ol.trans (o4.trans o5)
      exact more _ r5 zs (back (o1.trans (ol.trans o4)) hr5) (o1.trans o15) upd_same (paired_oth po1 o15) (paired_oth wz o5)
    | place q' kk =>
      obtain ⟨b, _, v1, v2, rfl, eb, p0', _⟩ := IsT.inv3 tn
      obtain rfl := p0'.of_str
      refine ⟨_, rfl, b, _, _, _, rfl, rfl, SqT.of eb, at0, sz, fun l0 hl0 => ⟨l0, _, rfl, .inl (SqL.of upd_same), rfl, rfl, _, rfl, iteFb (by decide) ?_⟩⟩
      have ol := cl l0 hl0
      exact more _ p [] hp (o1.trans ol) (by rw [List.append_nil]; exact ol.keep p _ (by simp) hp1) (paired_oth po1 ol) .nil
    | text q' s' =>
      obtain ⟨b, _, v1, v2, rfl, eb, p0', _⟩ := IsT.inv3 tn
      obtain rfl := p0'.of_str
      refine ⟨_, rfl, b, _, _, _, rfl, rfl, SqT.of eb, at0, sz, fun l0 hl0 => ⟨l0, _, rfl, .inl (SqL.of upd_same), rfl, rfl, _, rfl, iteFb (by decide) ?_⟩⟩
      have ol := cl l0 hl0
      exact more _ p [] hp (o1.trans ol) (by rw [List.append_nil]; exact ol.keep p _ (by simp) hp1) (paired_oth po1 ol) .nil
    | input q' t o c v =>
      obtain ⟨b, _, v1, v2, v3, v4, v5, rfl, eb, p0', _⟩ := IsT.inv6 tn
      obtain rfl := p0'.of_str
      refine ⟨_, rfl, b, _, _, _, rfl, rfl, SqT.of eb, at0, sz, fun l0 hl0 => ⟨l0, _, rfl, .inl (SqL.of upd_same), rfl, rfl, _, rfl, iteFb (by decide) ?_⟩⟩
      have ol := cl l0 hl0
      exact more _ p [] hp (o1.trans ol) (by rw [List.append_nil]; exact ol.keep p _ (by simp) hp1) (paired_oth po1 ol) .nil
  · obtain ⟨x2, p, out, rfl, hp, o1, hp1, po1⟩ := hW
    rw [lx, List.take_length] at po1
    exact ⟨_, rfl, q p out H1 hp hp1 po1 o1⟩
theorem ok_lpart {f fI fC fE fW fN : Addr} {fd dI dC dE dW dN : FuncData} {k : Nat} (F : Fun K "_law_part_text" "_law_part_text" sLPart f fd)
    (GLi : FnOk P w K mg base CX0 k fI dI ["program", "present"] spLawFirst) (bLi : Binds K dI ["program", "present"] []) (kLi : PySem.W.keepIn K (.ref fI) = true) (mLi : mg "_law_first" = some (.ref fI))
    (GLc : FnOk P w K mg base CX0 k fC dC ["about", "path", "number", "props"] (spLawChild 12)) (bLc : Binds K dC ["about", "path", "number", "props"] []) (kLc : PySem.W.keepIn K (.ref fC) = true) (mLc : mg "_law_child" = some (.ref fC))
    (GLev : FnOk P w K mg base CX0 k fE dE ["nodes"] (spLEvery 14)) (bLev : Binds K dE ["nodes"] []) (kLev : PySem.W.keepIn K (.ref fE) = true) (mLev : mg "_law_every" = some (.ref fE))
    (GLwr : FnOk P w K mg base CX0 k fW dW ["nodes", "out"] (spLWrite 14)) (bLwr : Binds K dW ["nodes", "out"] []) (kLwr : PySem.W.keepIn K (.ref fW) = true) (mLwr : mg "_law_write" = some (.ref fW))
    (GLnu : FnOk P w K mg base CX0 k fN dN ["row"] spNums) (bLnu : Binds K dN ["row"] []) (kLnu : PySem.W.keepIn K (.ref fN) = true) (mLnu : mg "_law_numbers" = some (.ref fN))
    (m_tuple : mg "tuple" = none) (m_range : mg "range" = none) (m_len : mg "len" = none) (m_str : mg "str" = none) :
    FnOk P w K mg base CX0 (k + 1) f fd ["program", "first", "k"] spLPart := by
  refine F.ok scLPart (fun vs H Q E h => ?_) (fun cdv A outer s H vs Q E' hr h => ?_)
  · obtain ⟨g, Fi, i, vp, vf, rfl, _⟩ := h
    rfl
  obtain ⟨g, Fi, i, vp, vf, rfl, tp, tf, hg, hF, hi, q⟩ := h
  have nd := scLPart.nd
  refine ⟨_, (pss_cons (ps_set (i := 3) nd rfl (.inl rfl) (pe_call GLi hr rfl mLi kLi bLi .nil pass0 (pa_cons (pv 0) (pa_cons (pe_tupleOf (by rfl) m_tuple (pe_lc (own := [("j", 6)]) (g := gName 6) rfl nd (pi_range1 (by rfl) m_range (pa_cons pe_int pa_nil)) (blkOk_by (N := ["program", "first", "k", "seed", "row", "out", "j"]) (sc := defScope sLPart) (by decide +kernel)) (fun _ _ _ _ _ => (pg_name (i := 6) nd rfl (.inl rfl))) (fun _ _ _ _ _ => pts_one (PW.pt (pw_or (pt_cmpR (r := rIn K false) op_in_seq (pv 6) (pv 1) (by rfl)) (pw_or1 (pt_cmpR op_eq (pv 6) (pv 2) (nomark _)))))) (fun _ _ _ _ _ => (pv 6)))) pa_nil))))
  (pss_cons (ps_for PassesOwn.never rfl (pi_list (pe_call GLev hr rfl mLev kLev bLev .nil pass0 (pa_cons (pe_tup (pa_cons (pe_call GLc hr rfl mLc kLc bLc .nil pass0 (pa_cons (pv 3) (pa_cons (pe_tup pa_nil) (pa_cons pe_int (pa_cons (pe_tup pa_nil) pa_nil))))) pa_nil)) pa_nil))) (pg_name (i := 4) nd rfl (.inl rfl))
  (pss_one (ps_if (pt_cmpR (op_eqT (Room.units65 hr)) (pe_slice sl_tupA (pe_ix ix_tup (pv 4) pe_int (fun _ _ => rfl)) (po_some (pe_op op_sub (pe_callB call_len_seq (by rfl) m_len PySem.boot_len (pa_cons (pe_ix ix_tup (pv 4) pe_int (fun _ _ => rfl)) pa_nil)) pe_int)) po_none) (pe_tup (pa_cons (pe_tup (pa_cons pe_str (pa_cons (pv 2) pa_nil))) pa_nil)) (nomark _))
  (pss_cons (ps_set (i := 5) nd rfl (.inl rfl) (pe_lst (pa_cons (pe_op op_add_str (pe_op op_add_str (pe_op op_add_str (pe_op op_add_str pe_str (pe_callTy call_str_int (by rfl) m_str bo_str (pa_cons (pv 2) pa_nil))) pe_str) (pe_call GLnu hr rfl mLnu kLnu bLnu .nil pass0 (pa_cons (pe_ix ix_tup (pv 4) pe_int (fun _ _ => rfl)) pa_nil))) pe_str) (pa_cons (pe_lst pa_nil) pa_nil))))
  (pss_cons (ps_expr (pe_call GLwr hr rfl mLwr kLwr bLwr .nil pass0 (pa_cons (pe_ix ix_tup (pv 4) pe_int (fun _ _ => rfl)) (pa_cons (pv 5) pa_nil))))
  (pss_one (ps_ret (pe_op op_add_str (pe_ix ix_list (pv 5) pe_int (fun _ _ => rfl)) pe_str)))))
  pss_nil)))
  (pss_one (ps_ret pe_str)))), ?_⟩
  obtain ⟨rok, memA⟩ := hF.add hg hi
  obtain ⟨af, rfl, ef⟩ := tf.nats
  have hpl := hg.pl
  obtain ⟨_, _, _, _, s5, s6, s7, s8, _⟩ := sign1
  have l5 := numS_nat (show i < 1000 by omega)
  refine ⟨_, rfl, _, rfl, by decide, by decide, fun L hL => lc_range (lo := 0) (n := 4)
    (fun m H3 => H3 L = some (.lst (((List.range m).filter fun z => decide (z ∈ Fi ∨ z = i)).map natV)) ∧ Oth [L] H H3)
    ⟨by simp [upd_same], Oth.new hL⟩ (fun m H3 hm hW => ?_) (fun H3 hW => ?_)⟩
  · obtain ⟨hL3, o3⟩ := hW
    rw [show (0 : Int) + (m : Int) = (m : Int) from Int.zero_add _]
    have ef3 := o3.tup _ _ ef
    have snoc : ∀ bq : Bool, decide (m ∈ Fi ∨ m = i) = bq → ((List.range (m + 1)).filter fun z => decide (z ∈ Fi ∨ z = i)) = ((List.range m).filter fun z => decide (z ∈ Fi ∨ z = i)) ++ (if bq = true then [m] else []) := fun bq hq => by
      rw [List.range_succ, List.filter_append]
      congr 1
      show (match decide (m ∈ Fi ∨ m = i) with | true => [m] | false => []) = _
      rw [hq]
      cases bq <;> rfl
    have llen : (((List.range m).filter fun z => decide (z ∈ Fi ∨ z = i)).map natV).length ≤ 4 := by
      rw [List.length_map]
      exact Nat.le_trans (List.length_filter_le _ _) (by rw [List.length_range]; omega)
    have yes : decide (m ∈ Fi ∨ m = i) = true → ∃ acc, H3 L = some (.lst acc) ∧ acc.length < sizeLine ∧ ((upd H3 L (.lst (acc ++ [.int (m : Int)]))) L = some (.lst (((List.range (m + 1)).filter fun z => decide (z ∈ Fi ∨ z = i)).map natV)) ∧ Oth [L] H (upd H3 L (.lst (acc ++ [.int (m : Int)])))) := fun hq => by
      refine ⟨_, hL3, Nat.lt_of_le_of_lt llen (by decide), ?_, o3.trans (Oth.put (by simp) hL3)⟩
      rw [upd_same, snoc true hq, List.map_append]
      rfl
    refine ⟨rfl, _, rfl, _, rfl, af, _, rfl, .inr (SqT.of ef3), rfl, flatN _, _, rfl, ?_⟩
    rw [if_neg (by simp), inVn]
    by_cases hin2 : m ∈ Fi
    · rw [decide_eq_true hin2]
      refine iteT ?_
      refine iteT ?_
      exact ⟨_, rfl, yes (decide_eq_true (.inl hin2))⟩
    · rw [decide_eq_false hin2]
      refine iteF ?_
      refine ⟨_, rfl, _, rfl, rfl, _, rfl, ite2 (fun c => ?_) (fun c => ?_)⟩
      · have hk : m = i := by
          have c' := of_decide_eq_true c
          injection c' with c'
          omega
        exact ⟨_, rfl, yes (decide_eq_true (.inr hk))⟩
      · have hk : ¬ m = i := fun e => by
          have c' := of_decide_eq_false (Bool.eq_false_iff.mpr c)
          exact c' (by rw [e])
        refine ⟨?_, o3⟩
        rw [snoc false (decide_eq_false (fun h => h.elim hin2 hk))]
        simpa using hL3
  obtain ⟨hL3, o3⟩ := hW
  have o3' := Oth.drop o3 hL
  refine .inl ⟨L, _, rfl, SqL.of hL3, fun t ht => ?_⟩
  have o4 := Oth.new (S := []) (o := .tup (((List.range 4).filter fun z => decide (z ∈ Fi ∨ z = i)).map natV)) ht
  have o34 := o3'.trans o4
  have gX := rok.good hg
  refine ⟨fstP g (addN Fi i), _, _, rfl, tp.oth o34, mkNats upd_same, rfl, rfl, gX, rok.asc, fun sd H5 hsd habS o5 => ?_⟩
  have setS := settle_set gX rok.asc
  have esc := settle_child gX
  have hlast : (fstP g (addN Fi i)).settle.g.comps.length - 1 ≤ 2 := by have := hg.many; show g.comps.length - 1 ≤ 2; omega
  -- its children
  refine ⟨_, rfl, sz, fun t1 ht1 => ⟨sz, fun t2 ht2 => ?_⟩⟩
  have o9 := (Oth.new (S := []) (o := .tup []) ht1).trans (Oth.new (o := .tup []) ht2)
  refine ⟨(fstP g (addN Fi i)).settle, 0, [], [], _, _, sd, rfl, habS.oth o9 (by simp), setS.good, .mk ((Oth.new (S := []) ht2).tup _ _ upd_same) .nil, .mk upd_same .nil, Nat.zero_le _, (by intro x hx; cases hx), by omega, PathOk.nil, by simp, fun vpg H10 tpg o10 => ?_⟩
  rw [esc] at tpg
  obtain ⟨c1, c2, c3, c4⟩ := child_facts gX
  have lf := lfind gX i
  obtain ⟨f1, f2, f3, f4, f5, f6, f7⟩ := own_fits gX
  refine ⟨sz, fun t3 ht3 => ?_⟩
  have o11 := Oth.new (S := []) (o := .tup [vpg]) ht3
  refine ⟨[child (fstP g (addN Fi i)) 12 [] 0 []], _, rfl, .mk upd_same (.cons (tpg.oth o11) .nil), by simp only [Nd.hts]; omega, by simp only [Nd.cnts]; omega, fun pz rs H12 hpz ez pz12 o12 => ?_⟩
  have oall : Oth [] H H12 := o34.trans (o5.trans (o9.trans (o10.trans (o11.trans o12))))
  have lrs : rs.length = (Nd.evs [child (fstP g (addN Fi i)) 12 [] 0 []]).length := by rw [(paired_get pz12).1, List.length_map]
  have pok : ∀ m ∈ Nd.evs [child (fstP g (addN Fi i)) 12 [] 0 []], m.Pok := Nd.evs_pok _ ⟨c3, trivial⟩
  have kid : ∀ m ∈ Nd.evs [child (fstP g (addN Fi i)) 12 [] 0 []], ∃ p c ps rs ns, m = .child p c ps rs ns ∧ Sm rs ∧ rs.length ≤ 2 ∧ Nd.Fits ns ∧ Nd.cnts ns ≤ 65640 ∧ Nd.hts ns < 14 := fun m hm => by
    rw [child12] at hm
    simp only [Nd.evs, Nd.ev, List.append_nil] at hm
    rcases List.mem_cons.mp hm with rfl | hm
    · exact ⟨_, _, _, _, _, rfl, f4, f5, f1, f3, by omega⟩
    · obtain ⟨a, b, c, p, c', ps, rs, ns, rfl⟩ := Nd.evs_fit _ f1 m hm
      obtain ⟨_, _, _, _, _, z1, z2, z3⟩ := a
      simp only [Nd.cnt] at b
      simp only [Nd.ht] at c
      exact ⟨_, _, _, _, _, rfl, z1, z2, z3, by omega, by omega⟩
  have ept : ptxt i (own12 (fstP g (addN Fi i))) = match (Nd.evs [child (fstP g (addN Fi i)) 12 [] 0 []]).find? (isP i) with | some m => m.wr | none => Str.empty := by rw [lf]; rfl
  generalize Nd.evs [child (fstP g (addN Fi i)) 12 [] 0 []] = es at pz12 lrs pok kid ept
  refine ⟨pz, rfl, ⟨rs, SqL.of ez⟩, for_list (xs := rs)
    (fun j σ H13 => ∃ (x4 x5 : Option V), σ = [some vp, some (.ref af), some (.int (i : Int)), some (.ref sd), x4, x5, none] ∧ (es.take j).find? (isP i) = none ∧ Oth [] H12 H13)
    ⟨none, none, rfl, rfl, Oth.refl⟩ (fun j σ H13 _ hW => ?_) (fun j x σ H13 hx hW => ?_) (fun σ H13 hW => ?_)⟩
  · obtain ⟨_, _, _, _, o13⟩ := hW
    exact SqL.of (o13.keep _ _ (by simp) ez)
  · obtain ⟨x4, x5, rfl, no, o13⟩ := hW
    have hj : j < es.length := by rw [← lrs]; exact (List.getElem?_eq_some_iff.mp hx).1
    obtain ⟨m, gm⟩ : ∃ m, es[j]? = some m := ⟨es[j], List.getElem?_eq_getElem hj⟩
    have mm := List.mem_of_getElem? gm
    have tm : IsT H13 m.toT x := ((paired_get pz12).2 j _ _ (by rw [List.getElem?_map, gm]; rfl) hx).oth o13
    have pm := pok m mm
    obtain ⟨p, c, ps, rds, ns, rfl, sr, lr, fit, hc, hh⟩ := kid m mm
    obtain ⟨b, _, v1, v2, v3, v4, v5, rfl, eb, p0, p1, p2, p3, p4, p5⟩ := IsT.inv6 tm
    obtain ⟨ap, xp, rfl, ep, pp⟩ := p1.inv
    have split : es = es.take j ++ (.child p c ps rds ns :: es.drop (j + 1)) := by
      have e3 : Nd.child p c ps rds ns = es[j] := by rw [List.getElem?_eq_getElem hj] at gm; exact (Option.some.inj gm).symm
      rw [e3, ← List.drop_eq_getElem_cons hj, List.take_append_drop]
    refine ⟨_, rfl, b, _, _, _, rfl, rfl, SqT.of eb, at1, _, rfl, b, _, _, _, rfl, rfl, SqT.of eb, at1, ap, _, rfl, .inr (SqT.of ep), _, _, rfl, rfl, _, rfl, ?_⟩
    unfold tNoPart
    refine sl_end ep fun cc H14 o14 ecc => ⟨_, rfl, sz, fun t5 ht5 => ⟨sz, fun t6 ht6 => ?_⟩⟩
    have o5' := Oth.new (S := []) (o := .tup [.str "part", .int (i : Int)]) ht5
    have o6' := Oth.new (S := []) (o := .tup [.ref t5]) ht6
    have o56 := o5'.trans o6'
    have lxp : xp.length = p.length := by rw [(paired_get pp).1, List.length_map]
    rw [lxp] at ecc
    have tcc : IsT _ (pathT (p.drop (p.length - 1))) (.ref cc) := (drop_tup (paired_oth pp o14) ecc).oth o56
    have t66 : IsT _ (pathT [.part i]) (.ref t6) := .mk1 upd_same (.mk2 (o6'.tup _ _ upd_same) (.str _) (.int _))
    have o16 := o14.trans o56
    generalize upd (upd H14 t5 (.tup [.str "part", .int (i : Int)])) t6 (.tup [.ref t5]) = H16 at tcc t66 o16
    refine ⟨pathT (p.drop (p.length - 1)), pathT [.part i], tcc, t66, (PathOk.drop pm.1 _).eqb, PathOk.eqb ⟨(fun m hm => by rw [List.mem_singleton.mp hm]; trivial), by simp⟩, _, rfl, ?_⟩
    by_cases e : lastN p = .part i
    · refine ite2 (fun z => ?_) (fun z => absurd (by rw [drop_part.mpr e]; simp) z)
      have ew : (Nd.child p c ps rds ns).wr = "{" ++ numS (i : Int) ++ ":" ++ wNums rds ++ " " ++ Nd.wrs ns ++ "}" := by simp only [Nd.wr, e, wChild, wPart]
      have l1 := nums_len sr
      have l2 := Nd.wrs_len ns fit
      have eb6 := o16.tup _ _ eb
      refine ⟨_, rfl, _, rfl, natAbs_nat (show i < 1000 by omega), ("{" : Str), numS (i : Int), rfl, rfl, szT (by rw [s6]; omega), ("{" : Str) ++ numS (i : Int), _, rfl, rfl, szT (by rw [lenA, s6, s7]; omega), _, rfl, b, _, _, _, rfl, rfl, SqT.of eb6, at4, rds, _, rfl, p4.oth o16, sr, by omega, fun H17 o17 => ?_⟩
      refine ⟨"{" ++ numS (i : Int) ++ ":", wNums rds, rfl, rfl, szT (by simp only [lenA, s6, s7]; omega), "{" ++ numS (i : Int) ++ ":" ++ wNums rds, _, rfl, rfl, szT (by simp only [lenA, s6, s7, s5]; omega), sz, fun Lz hLz => ⟨sz, fun oz hoz => ?_⟩⟩
      have oL := Oth.new (S := []) (o := .lst []) hLz
      have oo := Oth.new (S := []) (o := .lst [.str ("{" ++ numS (i : Int) ++ ":" ++ wNums rds ++ " "), .ref Lz]) hoz
      have nL : Lz ≠ oz := ne_of_none (upd_same : (upd H17 Lz (.lst [])) Lz = _) hoz
      have o18 := o17.trans (oL.trans oo)
      refine ⟨_, rfl, b, _, _, _, rfl, rfl, SqT.of (o18.tup _ _ eb6), at5, _, rfl, ns, _, oz, Lz, "{" ++ numS (i : Int) ++ ":" ++ wNums rds ++ " ", [], rfl, (p5.oth o16).oth o18, upd_same, oo.keep Lz _ (by simp) upd_same, nL.symm, fit, hh, by omega, by simp only [lenA, s5, s6, s7]; omega, by simp; omega, fun H19 ms ho19 hL19 pm19 o19 => ?_⟩
      refine ⟨_, rfl, oz, _, _, _, rfl, rfl, SqL.of ho19, at0, _, _, rfl, rfl, szT (by simp only [lenA, s5, s6, s7, s8]; omega), ?_⟩
      have ef : ptxt i (own12 (fstP g (addN Fi i))) = (Nd.child p c ps rds ns).wr := by
        rw [ept, split, List.find?_append, no, List.find?_cons_of_pos (by show decide (lastN p = .part i) = true; rw [decide_eq_true e])]
        rfl
      have hoz0 : H17 oz = none := by
        cases z2 : H17 oz with
        | none => rfl
        | some zz => rw [oL.keep oz _ (by simp) z2] at hoz; cases hoz
      have oend : Oth [] H17 H19 := Oth.drop (Oth.drop (((oL.trans oo).mono (S' := [oz, Lz]) (by simp)).trans o19) hoz0) hLz
      rw [← ew, ← ef]
      exact q H19 (oall.trans (o13.trans (o16.trans (o17.trans oend))))
    · refine ite2 (fun z => ?_) (fun z => ?_)
      · have z' : decide ((pathT (p.drop (p.length - 1))).nk = (pathT [.part i]).nk) = true := by simpa using z
        exact absurd (drop_part.mp (path_nk.mp (of_decide_eq_true z'))) e
      · refine ⟨_, _, rfl, ?_, o13.trans o16⟩
        rw [take_snoc gm, List.find?_append, no, List.find?_cons_of_neg (by show ¬ decide (lastN p = .part i) = true; rw [decide_eq_true_iff]; exact e)]
        rfl
  · obtain ⟨x4, x5, rfl, no, o13⟩ := hW
    rw [lrs, List.take_length] at no
    rw [no] at ept
    have := q H13 (oall.trans o13)
    rw [ept] at this
    have h2 : Q (.str Str.empty) H13 := this
    rw [← emptyS] at h2
    exact h2
end
abbrev sLaw : Stmt := topS 63
theorem scLaw : FnScope ["script", "box", "program", "server", "ready", "text", "page", "k", "due", "made", "told", "part", "present", "whole", "row", "name"] ["script"] (defScope sLaw) := ⟨rfl, rfl, rfl, by decide +kernel, rfl, by decide +kernel, by decide +kernel⟩
section
variable {P : Program} {w : World} {K : PySem.W.Frag} {mg : Str → Option Value} {base : Heap}
theorem ok_law {f fB fP fR fS fJ fE fO fN fX fM fY fU fV fQ C : Addr} {fd dB dP dR dS dJ dE dO dN dX dM dY dU dV dQ : FuncData} {k : Nat} (F : Fun K "law" "law" sLaw f fd)
    (GB : FnOk P w K mg base CX0 (k + 1) fB dB ["script", "first", "last"] (spBoxY K)) (bB : Binds K dB ["script", "first", "last"] []) (kB : PySem.W.keepIn K (.ref fB) = true) (mB : mg "_law_box" = some (.ref fB))
    (GP : FnOk P w K mg base CX0 (k + 1) fP dP ["box"] spProgramY) (bP : Binds K dP ["box"] []) (kP : PySem.W.keepIn K (.ref fP) = true) (mP : mg "_law_program" = some (.ref fP))
    (GR : FnOk P w K mg base CX0 (k + 1) fR dR ["box", "many"] spDrawY) (bR : Binds K dR ["box", "many"] []) (kR : PySem.W.keepIn K (.ref fR) = true) (mR : mg "_law_draw" = some (.ref fR))
    (GS : FnOk P w K mg base CX0 (k + 1) fS dS ["actual", "expected"] (spSame 40)) (bS : Binds K dS ["actual", "expected"] []) (kS : PySem.W.keepIn K (.ref fS) = true) (mS : mg "_law_same" = some (.ref fS))
    (GLi : FnOk P w K mg base CX0 (k + 1) fJ dJ ["program", "present"] spLawFirst) (bLi : Binds K dJ ["program", "present"] []) (kLi : PySem.W.keepIn K (.ref fJ) = true) (mLi : mg "_law_first" = some (.ref fJ))
    (GLc : FnOk P w K mg base CX0 (k + 1) fE dE ["about", "path", "number", "props"] (spLawChild 12)) (bLc : Binds K dE ["about", "path", "number", "props"] []) (kLc : PySem.W.keepIn K (.ref fE) = true) (mLc : mg "_law_child" = some (.ref fE))
    (GMg : FnOk P w K mg base CX0 (k + 1) fM dM ["program", "store", "cells", "present"] (spMkPage 12)) (bMg : Binds K dM ["program", "store", "cells", "present"] []) (kMg : PySem.W.keepIn K (.ref fM) = true) (mMg : mg "make_page" = some (.ref fM))
    (GWpg : FnOk P w K mg base CX0 (k + 1) fO dO ["page"] (spWPage 13)) (bWpg : Binds K dO ["page"] []) (kWpg : PySem.W.keepIn K (.ref fO) = true) (mWpg : mg "write_page" = some (.ref fO))
    (GWpt : FnOk P w K mg base CX0 (k + 1) fN dN ["k", "reads", "nodes"] (spWPart 14)) (bWpt : Binds K dN ["k", "reads", "nodes"] []) (kWpt : PySem.W.keepIn K (.ref fN) = true) (mWpt : mg "write_part" = some (.ref fN))
    (GLpg : FnOk P w K mg base CX0 (k + 1) fX dX ["page"] (spLPage 14)) (bLpg : Binds K dX ["page"] []) (kLpg : PySem.W.keepIn K (.ref fX) = true) (mLpg : mg "_law_page_text" = some (.ref fX))
    (GLev : FnOk P w K mg base CX0 (k + 1) fY dY ["nodes"] (spLEvery 14)) (bLev : Binds K dY ["nodes"] []) (kLev : PySem.W.keepIn K (.ref fY) = true) (mLev : mg "_law_every" = some (.ref fY))
    (GLpt : FnOk P w K mg base CX0 (k + 1) fU dU ["program", "first", "k"] spLPart) (bLpt : Binds K dU ["program", "first", "k"] []) (kLpt : PySem.W.keepIn K (.ref fU) = true) (mLpt : mg "_law_part_text" = some (.ref fU))
    (TC : Cls K C) (n2 : NoAttr K C "sent") (n3 : NoAttr K C "ready") (mServer : mg "Server" = some (.ref C)) {fI : Addr} {dI : FuncData} (MkSv0 : Mk K C fI)
    (GSv0 : FnOk P w K mg base CX0 k fI dI ["self", "program"] (spSInit C)) (bSv0 : Binds K dI ["self", "program"] [])
    (GSrn : FnOk P w K mg base CX0 (k + 1) fV dV ["self"] (spRender C)) (bSrn : Binds K dV ["self"] []) (mtSrn : Meth K C "render" fV)
    (GSrs : FnOk P w K mg base CX0 (k + 1) fQ dQ ["self", "k"] (spResolve C)) (bSrs : Binds K dQ ["self", "k"] []) (mtSrs : Meth K C "resolve" fQ)
    (m_tuple : mg "tuple" = none) (m_range : mg "range" = none) (m_len : mg "len" = none) (m_sorted : mg "sorted" = none) : FnOk P w K mg base CX0 (k + 2) f fd ["script"] (spLawY K) := by
  refine F.ok scLaw (fun vs H Q E h => ?_) (fun cdv A outer s0 H vs Q E' hr h => ?_)
  · obtain ⟨a, ns, rfl, _⟩ := h
    rfl
  obtain ⟨a, ns, rfl, hS, h63, q⟩ := h
  have nd := scLaw.nd
  refine ⟨_, (pss_cons (ps_set (i := 1) nd rfl (.inl rfl) (pe_call GB hr rfl mB kB bB .nil pass0 (pa_cons (pv 0) (pa_cons pe_int (pa_cons pe_int pa_nil)))))
  (pss_cons (ps_set (i := 2) nd rfl (.inl rfl) (pe_call GP hr rfl mP kP bP .nil pass0 (pa_cons (pv 1) pa_nil)))
  (pss_cons (ps_set (i := 3) nd rfl (.inl rfl) (pe_make MkSv0 GSv0 hr rfl mServer bSv0 .nil pass0 (pa_cons (pv 2) pa_nil)))
  (pss_cons (ps_set (i := 4) nd rfl (.inl rfl) (pe_lst pa_nil))
  (pss_cons (ps_set (i := 5) nd rfl (.inl rfl) pe_str)
  (pss_cons (ps_set (i := 6) nd rfl (.inl rfl) pe_non)
  (pss_cons (ps_for PassesOwn.never rfl (pi_range1 (by rfl) m_range (pa_cons (pe_call GR hr rfl mR kR bR .nil pass0 (pa_cons (pv 1) (pa_cons pe_int pa_nil))) pa_nil)) (pg_name (i := 7) nd rfl (.inl rfl))
  (pss_cons (ps_set (i := 8) nd rfl (.inl rfl) pe_str)
  (pss_cut (ps_if (pt_cmpR op_eq (pe_call GR hr rfl mR kR bR .nil pass0 (pa_cons (pv 1) (pa_cons pe_int pa_nil))) pe_int (nomark _))
  (pss_cut (ps_if (pt_cmpR op_isN (pv 6) pe_non (nomark _))
  (pss_cons (ps_set (i := 6) nd rfl (.inl rfl) (pe_call GLc hr rfl mLc kLc bLc .nil pass0 (pa_cons (pe_call GLi hr rfl mLi kLi bLi .nil pass0 (pa_cons (pv 2) (pa_cons (pe_tupleOf (by rfl) m_tuple (pe_callB cr_sorted (by rfl) m_sorted bo_sorted (pa_cons (pv 4) pa_nil))) pa_nil))) (pa_cons (pe_tup pa_nil) (pa_cons pe_int (pa_cons (pe_tup pa_nil) pa_nil))))))
  (pss_cons (ps_set (i := 8) nd rfl (.inl rfl) (pe_ix ix_list (pe_call GLpg hr rfl mLpg kLpg bLpg .nil pass0 (pa_cons (pv 6) pa_nil)) pe_int (fun _ _ => rfl)))
  (pss_cons (ps_set (i := 9) nd rfl (.inl rfl) (pe_call GMg hr rfl mMg kMg bMg .nil pass0 (pa_cons (pv 2) (pa_cons (pe_ix ix_tup (pv 2) pe_int (fun _ _ => rfl)) (pa_cons (pe_tup pa_nil) (pa_cons (pe_tupleOf (by rfl) m_tuple (pe_callB cr_sorted (by rfl) m_sorted bo_sorted (pa_cons (pv 4) pa_nil))) pa_nil))))))
  (pss_one (ps_if (pt_not (pt_val (pe_call GS hr rfl mS kS bS .nil pass0 (pa_cons (pe_call GWpg hr rfl mWpg kWpg bWpg .nil pass0 (pa_cons (pv 9) pa_nil)) (pa_cons (pv 8) pa_nil)))))
  (pss_one (ps_ret pe_bl))
  pss_nil)))))
  pss_nil)
  (pss_one (ps_set (i := 10) nd rfl (.inl rfl) (pe_meth0 (pv 3) TC mtSrn GSrn hr bSrn .nil pass0))))
  (pss_one (ps_if (pt_cmpR op_gt (pe_callB call_len_seq (by rfl) m_len PySem.boot_len (pa_cons (pe_ix ix_tup (pv 2) pe_int (fun _ _ => rfl)) pa_nil)) pe_int (nomark _))
  (pss_cons (ps_set (i := 11) nd rfl (.inl rfl) (pe_call GR hr rfl mR kR bR .nil pass0 (pa_cons (pv 1) (pa_cons (pe_callB call_len_seq (by rfl) m_len PySem.boot_len (pa_cons (pe_ix ix_tup (pv 2) pe_int (fun _ _ => rfl)) pa_nil)) pa_nil))))
  (pss_cut (ps_if (PW.pt (pw_and (pt_cmpR op_notN (pv 6) pe_non (nomark _)) (pw_and1 (pt_cmpR op_notIn_seq (pv 11) (pv 4) (by rfl)))))
  (pss_one (ps_set (i := 8) nd rfl (.inl rfl) (pe_call GLpt hr rfl mLpt kLpt bLpt .nil pass0 (pa_cons (pv 2) (pa_cons (pe_tupleOf (by rfl) m_tuple (pe_callB cr_sorted (by rfl) m_sorted bo_sorted (pa_cons (pv 4) pa_nil))) (pa_cons (pv 11) pa_nil))))))
  pss_nil)
  (pss_cut (ps_if (pt_cmpR op_notIn_seq (pv 11) (pv 4) (by rfl))
  (pss_one (ps_expr (pe_bm PySem.F.plainAttrs_list PySem.F.slot_list_append PySem.F.type_list_append mt_append (pv 4) (pa_cons (pv 11) pa_nil))))
  pss_nil)
  (pss_one (ps_set (i := 10) nd rfl (.inl rfl) (pe_meth (pv 3) TC mtSrs GSrs hr bSrs .nil pass0 (pa_cons (pv 11) pa_nil)))))))
  (pss_one (ps_set (i := 10) nd rfl (.inl rfl) pe_str)))))
  (pss_cons (ps_set (i := 5) nd rfl (.inl rfl) (pe_op op_add_str (pv 5) (pv 8)))
  (pss_cons (ps_if (PW.pt (pw_or (pt_not (pt_val (pe_call GS hr rfl mS kS bS .nil pass0 (pa_cons (pv 10) (pa_cons (pv 8) pa_nil))))) (pw_or1 (pt_not (pt_val (pe_call GS hr rfl mS kS bS .nil pass0 (pa_cons (pe_fld (pv 3) rfl) (pa_cons (pv 5) pa_nil))))))))
  (pss_one (ps_ret pe_bl))
  pss_nil)
  (pss_one (ps_if (pt_not (pt_val (pe_call GS hr rfl mS kS bS .nil pass0 (pa_cons (pe_fld (pv 3) rfl) (pa_cons (pe_tupleOf (by rfl) m_tuple (pe_callB cr_sorted (by rfl) m_sorted bo_sorted (pa_cons (pv 4) pa_nil))) pa_nil)))))
  (pss_one (ps_ret pe_bl))
  pss_nil)))))))
  (pss_cons (ps_set (i := 12) nd rfl (.inl rfl) (pe_tupleOf (by rfl) m_tuple (pe_callB cr_sorted (by rfl) m_sorted bo_sorted (pa_cons (pv 4) pa_nil))))
  (pss_cons (ps_set (i := 13) nd rfl (.inl rfl) (pe_call GLc hr rfl mLc kLc bLc .nil pass0 (pa_cons (pe_call GLi hr rfl mLi kLi bLi .nil pass0 (pa_cons (pv 2) (pa_cons (pv 12) pa_nil))) (pa_cons (pe_tup pa_nil) (pa_cons pe_int (pa_cons (pe_tup pa_nil) pa_nil))))))
  (pss_cons (ps_for PassesOwn.never rfl (pi_list (pe_call GLev hr rfl mLev kLev bLev .nil pass0 (pa_cons (pe_tup (pa_cons (pv 13) pa_nil)) pa_nil))) (pg_name (i := 14) nd rfl (.inl rfl))
  (pss_cons (ps_set (i := 15) nd rfl (.inl rfl) (pe_slice sl_tupA (pe_ix ix_tup (pv 14) pe_int (fun _ _ => rfl)) (po_some (pe_op op_sub (pe_callB call_len_seq (by rfl) m_len PySem.boot_len (pa_cons (pe_ix ix_tup (pv 14) pe_int (fun _ _ => rfl)) pa_nil)) pe_int)) po_none))
  (pss_one (ps_if (PW.pt (pw_and (pt_cmpR op_gt (pe_callB call_len_seq (by rfl) m_len PySem.boot_len (pa_cons (pv 15) pa_nil)) pe_int (nomark _)) (pw_and1 (pt_cmpR op_eq (pe_ix ix_tup (pe_ix ix_tup (pv 15) pe_int (fun _ _ => rfl)) pe_int (fun _ _ => rfl)) pe_str (nomark _)))))
  (pss_one (ps_if (pt_not (pt_val (pe_call GS hr rfl mS kS bS .nil pass0 (pa_cons (pe_call GWpt hr rfl mWpt kWpt bWpt .nil pass0 (pa_cons (pe_ix ix_tup (pe_ix ix_tup (pv 15) pe_int (fun _ _ => rfl)) pe_int (fun _ _ => rfl)) (pa_cons (pe_ix ix_tup (pv 14) pe_int (fun _ _ => rfl)) (pa_cons (pe_ix ix_tup (pv 14) pe_int (fun _ _ => rfl)) pa_nil)))) (pa_cons (pe_call GLpt hr rfl mLpt kLpt bLpt .nil pass0 (pa_cons (pv 2) (pa_cons (pv 12) (pa_cons (pe_ix ix_tup (pe_ix ix_tup (pv 15) pe_int (fun _ _ => rfl)) pe_int (fun _ _ => rfl)) pa_nil)))) pa_nil)))))
  (pss_one (ps_ret pe_bl))
  pss_nil))
  pss_nil))))
  (pss_one (ps_ret pe_bl)))))))))))), ?_⟩
  refine ⟨_, rfl, a, ns, 0, 63, rfl, hS, by omega, by omega, fun b d pl0 H1 hb o1 bx => ?_⟩
  refine ⟨_, rfl, _, b, d, pl0, rfl, bx, fun g v pl z H2 hg tv bx2 o2 => ?_⟩
  obtain ⟨pa, pc, ps', pq, cs, rfl, epa, epc, ppc, eps, epq⟩ := Pq.inv tv
  have gpl := hg.pl
  refine ⟨_, rfl, fun s dx hs hdx nex => ?_⟩
  have ons : Oth [] H2 (upd (upd H2 dx (.own s)) s (.ins C dx [])) := (Oth.new hdx).trans (Oth.new (by rw [upd_ne nex.symm]; exact hs))
  have hes : (upd (upd H2 dx (.own s)) s (.ins C dx [])) s = some (.ins C dx []) := upd_same
  generalize upd (upd H2 dx (.own s)) s (.ins C dx []) = H3 at ons hes
  refine ⟨s, dx, g, _, rfl, hes, tv.oth ons, fun H4 sv4 o4 => ⟨rfl, sz, fun rla hrla => ?_⟩⟩
  have o24 : Oth [s] H2 H4 := (ons.mono (by simp)).trans o4
  have o5 := Oth.new (S := []) (o := .lst []) hrla
  obtain ⟨xb, exb⟩ := bx2.is
  obtain ⟨db, edb⟩ := bx2.dig
  have epl := bx2.parts
  have nsb : b ≠ s := ne_of_none exb hs
  have nsd : d ≠ s := ne_of_none edb hs
  have nsp : pl ≠ s := ne_of_none epl hs
  have bx4 := bx2.oth o24 (by simp [nsb]) (by simp [nsd]) (by simp [nsp])
  have J0 : W30 C (upd H4 rla (.lst [])) b d pl z s pa rla g Str.empty [] [] := ⟨bx4.new hrla, sv4.oth o5 (by simp), upd_same, List.Perm.nil, rdy_nil, ⟨(bx4.nb hrla).symm, (bx4.ndn hrla).symm, (bx4.npn hrla).symm⟩, Nat.zero_le _, (tv.oth o24).oth o5⟩
  have o25 : Oth [s] H2 (upd H4 rla (.lst [])) := o24.trans (o5.mono (by simp))
  generalize upd H4 rla (.lst []) = H5 at J0 o25
  have epq5 := o25.tup _ _ epq
  have epa5 := o25.tup _ _ epa
  have eps5 := o25.tup _ _ eps
  rw [emptyS]
  -- what is sorted
  refine ⟨_, rfl, _, b, d, pl, _, rfl, by decide, J0.bx, fun m H6 m0 m1 bx6 o6 => ⟨m, rfl, by omega, by omega, for_range (lo := 0) (n := m.toNat)
    (fun i σ H7 => ∃ (vpage : V) (x7 x8 x9 x10 x11 : Option V) (text : Str) (rdy rl : List Nat), σ = [some (.ref a), some (.ref b), some (.ref pa), some (.ref s), some (.ref rla), some (.str text), some vpage, x7, x8, x9, x10, x11, none, none, none, none] ∧
      W30 C H7 b d pl z s pa rla g text rdy rl ∧ ((text = Str.empty ∧ vpage = .non) ∨ (text ≠ Str.empty ∧ ∃ p, vpage = .ref p)) ∧ ∃ S, Oth S H5 H7)
    ⟨.non, none, none, none, none, none, Str.empty, [], [], rfl, J0.draw o6 bx6, .inl ⟨rfl, rfl⟩, [b], o6⟩ (fun i σ H7 hi hW => ?_) (fun σ H7 hW => ?_)⟩⟩
  · obtain ⟨vpage, x7, x8, x9, x10, x11, text, rdy, rl, rfl, J, hpg, S0, oS0⟩ := hW
    have lrd := J.ok.len hg
    have lrl : rl.length ≤ 2 := by rw [J.pm.length_eq]; exact lrd
    refine ⟨fun σ H8 => ∃ (vp' : V) (due : Str) (x9 x11 : Option V) (rdy' rl' : List Nat), σ = [some (.ref a), some (.ref b), some (.ref pa), some (.ref s), some (.ref rla), some (.str text), some vp', some (.int (0 + (i : Int))), some (.str due), x9, some (.str due), x11, none, none, none, none] ∧
      W30 C H8 b d pl z s pa rla g (text ++ due) rdy' rl' ∧ ((text ++ due = Str.empty ∧ vp' = .non) ∨ (text ++ due ≠ Str.empty ∧ ∃ p, vp' = .ref p)) ∧ text.length + due.length ≤ 9000000 ∧ ∃ S, Oth S H5 H8, ?_, ?_⟩
    · refine ⟨_, rfl, _, b, d, pl, _, rfl, by decide, J.bx, fun r1 H8 _ _ bx8 o8 => ⟨rfl, _, rfl, ite2 (fun c => ?_) (fun c => ?_)⟩⟩
      · -- the page is asked for
        have J := J.draw o8 bx8
        have oS8 : Oth (b :: S0) H5 H8 := (oS0.mono (by intro x hx; simp [hx])).trans (o8.mono (by simp))
        refine ⟨fun σ H9 => ∃ (p : Addr) (x9 : Option V), σ = [some (.ref a), some (.ref b), some (.ref pa), some (.ref s), some (.ref rla), some (.str text), some (.ref p), some (.int (0 + (i : Int))), some (.str (rendT g text rdy)), x9, x10, x11, none, none, none, none] ∧ W30 C H9 b d pl z s pa rla g text rdy rl ∧ Oth [] H8 H9, ?_, ?_⟩
        · rcases hpg with ⟨et, rfl⟩ | ⟨nt, p, rfl⟩
          · refine ⟨_, rfl, rfl, _, rfl, iteT ?_⟩
            have er : rendT g text rdy = pageT g rdy := by unfold rendT; rw [if_pos et]
            have gX := J.ok.good hg
            obtain ⟨f1, f2, f3, f4, f5, _⟩ := own_fits gX
            refine ⟨_, rfl, _, rfl, rla, rl.map Int.ofNat, rfl, by rw [← nat_vs]; exact SqL.of J.rd, by simp; omega, fun ns' p1 perm le hp1 => ?_⟩
            have ens := sort_rdy J perm le
            subst ens
            have q1 := Oth.new (S := []) (o := .lst ((rdy.map Int.ofNat).map V.int)) hp1
            refine .inl ⟨p1, _, rfl, SqL.of upd_same, fun t2 ht2 => ?_⟩
            have q2 := Oth.new (S := []) (o := .tup ((rdy.map Int.ofNat).map V.int)) ht2
            have q12 := q1.trans q2
            refine ⟨fstP g rdy, _, _, rfl, J.tg.oth q12, mkNats (ns := rdy) (by rw [upd_same, nat_vs]), rfl, rfl, gX, J.ok.asc, fun sd H9 hsd habS o9 => ?_⟩
            have setS := settle_set gX J.ok.asc
            have hlast : (fstP g rdy).settle.g.comps.length - 1 ≤ 2 := by have := hg.many; show g.comps.length - 1 ≤ 2; omega
            refine ⟨sz, fun t3 ht3 => ⟨sz, fun t4 ht4 => ?_⟩⟩
            have q34 := (Oth.new (S := []) (o := .tup []) ht3).trans (Oth.new (o := .tup []) ht4)
            refine ⟨(fstP g rdy).settle, 0, [], [], _, _, sd, rfl, habS.oth q34 (by simp), setS.good, .mk ((Oth.new (S := []) ht4).tup _ _ upd_same) .nil, .mk upd_same .nil, Nat.zero_le _, (by intro x hx; cases hx), by omega, PathOk.nil, by simp, fun vpg H10 tpg o10 => ?_⟩
            rw [settle_child gX, child12] at tpg
            obtain ⟨pgA, _, w1, w2, w3, w4, w5, rfl, epg, _⟩ := IsT.inv6 tpg
            refine ⟨_, rfl, [], 0, [], rds12 (fstP g rdy), own12 (fstP g rdy), _, rfl, tpg, f4, f5, f1, by omega, by omega, fun r L us H11 hr11 er11 eL11 _ o11 => ⟨r, _, _, _, rfl, rfl, SqL.of er11, at0, ?_⟩⟩
            have o811 : Oth [] H8 H11 := q12.trans (o9.trans (q34.trans (o10.trans o11)))
            have J11 := J.nil o811
            have oS11 : Oth (b :: S0) H5 H11 := oS8.trans (o811.mono (by simp))
            -- made
            refine ⟨_, rfl, _, rfl, pa, _, _, _, rfl, rfl, SqT.of (oS11.tup _ _ epa5), at2, sz, fun t5 ht5 => ?_⟩
            have q5 := Oth.new (S := []) (o := .tup []) ht5
            have J12 := J11.nil q5
            refine ⟨_, rfl, rla, rl.map Int.ofNat, rfl, by rw [← nat_vs]; exact SqL.of J12.rd, by simp; omega, fun ns' p1 perm le hp1 => ?_⟩
            have ens := sort_rdy J12 perm le
            subst ens
            have q6 := Oth.new (S := []) (o := .lst ((rdy.map Int.ofNat).map V.int)) hp1
            refine .inl ⟨p1, _, rfl, SqL.of upd_same, fun t7 ht7 => ?_⟩
            have q7 := Oth.new (S := []) (o := .tup ((rdy.map Int.ofNat).map V.int)) ht7
            have q67 := q6.trans q7
            have q57 := q5.trans q67
            have J13 := J12.nil q67
            refine ⟨fstP g rdy, _, _, _, _, rfl, J13.tg, IsT.mkI (ns := intsOf g.store) (by have z9 := q57.tup _ _ (oS11.tup _ _ eps5); rw [nat_vs] at z9; exact z9), .mk (q67.tup _ _ upd_same) .nil, mkNats (ns := rdy) (by rw [upd_same, nat_vs]), gX, by show 3 + 4 * (g.comps.length - 1) < 12; have := hg.many; omega, by omega, fun vmade H14 tmade o14 => ?_⟩
            rw [comp12] at tmade
            refine ⟨_, rfl, rds12 (fstP g rdy), own12 (fstP g rdy), _, rfl, tmade, f4, f5, f1, by omega, by omega, fun H15 o15 => ⟨_, rfl, .str (pageT g rdy), _, _, rfl, .str _, .str _, .str _ _, _, rfl, iteF ?_⟩⟩
            refine ⟨_, _, by rw [er]; rfl, J13.nil (o14.trans o15), o811.trans (q57.trans (o14.trans o15))⟩
          · refine ⟨_, rfl, rfl, _, rfl, iteF ?_⟩
            have er : rendT g text rdy = Str.empty := by unfold rendT; rw [if_neg nt]
            exact ⟨p, x9, by rw [er]; rfl, J, Oth.refl⟩
        rintro σ H9 ⟨p, x9', rfl, J9, o9⟩
        obtain ⟨dx9, vp9, vr9, e9, _, _⟩ := J9.sv.ob
        refine ⟨_, rfl, s, dx9, _, rfl, e9, no_render, s, g, text, rdy, rfl, J9.sv, hg, J9.ok, fun H10 sv10 o10 => ?_⟩
        have J10 := J9.srv o10 sv10 J9.pm J9.ok (rend_len hg J9.ok J9.ln)
        have hne : text ++ rendT g text rdy ≠ Str.empty := by
          unfold rendT
          split
          · rename_i e; rw [e, strE]; exact pageT_pos
          · rename_i e; rw [appE]; exact e
        have hl := J10.ln
        have := lenA text (rendT g text rdy)
        refine ⟨_, _, _, _, rdy, rl, rfl, J10, .inr ⟨hne, p, rfl⟩, by omega, s :: b :: S0, ?_⟩
        exact ((oS8.trans (o9.mono (by simp))).mono (fun x hx => List.mem_cons_of_mem _ hx)).trans (o10.mono (by simp))
      · -- a part comes, or nothing
        have J := J.draw o8 bx8
        have oS8 : Oth (b :: S0) H5 H8 := (oS0.mono (by intro x hx; simp [hx])).trans (o8.mono (by simp))
        have epq8 := oS8.tup _ _ epq5
        have epa8 := oS8.tup _ _ epa5
        refine ⟨_, rfl, pa, _, _, _, rfl, rfl, SqT.of epa8, at3, pq, _, rfl, .inr (SqT.of epq8), _, _, rfl, rfl, _, rfl, ite2 (fun c1 => ?_) (fun c1 => ?_)⟩
        · have hpos : 0 < g.parts.length := by
            have := of_decide_eq_true c1
            rw [List.length_map] at this
            omega
          refine ⟨_, rfl, _, rfl, pa, _, _, _, rfl, rfl, SqT.of epa8, at3, pq, _, rfl, .inr (SqT.of epq8), _, b, d, pl, _, rfl, by rw [List.length_map]; omega, J.bx, fun r2 H9 l2 u2 bx9 o9 => ?_⟩
          obtain ⟨kk, rfl⟩ := Int.eq_ofNat_of_zero_le l2
          rw [List.length_map] at u2
          have hk : kk < g.parts.length := by omega
          have J9 := J.draw o9 bx9
          have oS9 : Oth (b :: S0) H5 H9 := oS8.trans (o9.mono (by simp))
          have notin : ∀ {H' : Hp}, W30 C H' b d pl z s pa rla g text rdy rl → ∀ {Q' : V → Hp → Prop}, Q' (.bl (!decide (kk ∈ rl))) H' → (rIn (cxOf CX0 P w K mg base ["script", "box", "program", "server", "ready", "text", "page", "k", "due", "made", "told", "part", "present", "whole", "row", "name"] "law" (defScope sLaw) f cdv A outer s0 H E').nox.K true) (.int (kk : Int)) (.ref rla) H' Q' := fun {H'} JJ {Q'} hq => by
            refine ⟨rla, _, rfl, .inl (SqL.of JJ.rd), rfl, flatN _, ?_⟩
            rw [if_pos (by rfl), inVn]
            exact hq
          refine ⟨fun σ H10 => ∃ (x9 : Option V), σ = [some (.ref a), some (.ref b), some (.ref pa), some (.ref s), some (.ref rla), some (.str text), some vpage, some (.int (0 + (i : Int))), some (.str (resT g text rdy kk)), x9, x10, some (.int (kk : Int)), none, none, none, none] ∧ W30 C H10 b d pl z s pa rla g text rdy rl ∧ Oth [] H9 H10, ?_, ?_⟩
          · have mem : kk ∈ rl ↔ kk ∈ rdy := J9.pm.mem_iff
            rcases hpg with ⟨et, rfl⟩ | ⟨nt, p, rfl⟩
            · have er : resT g text rdy kk = Str.empty := by unfold resT; rw [if_pos (.inr et)]
              exact ⟨_, rfl, rfl, _, rfl, iteF (iteF ⟨x9, by rw [er]; rfl, J9, Oth.refl⟩)⟩
            · refine ⟨_, rfl, rfl, _, rfl, iteT ⟨_, rfl, _, rfl, notin J9 ⟨_, rfl, ?_⟩⟩⟩
              by_cases hin : kk ∈ rl
              · rw [decide_eq_true hin]
                have er : resT g text rdy kk = Str.empty := by unfold resT; rw [if_pos (.inl (mem.mp hin))]
                exact iteF ⟨x9, by rw [er]; rfl, J9, Oth.refl⟩
              · rw [decide_eq_false hin]
                refine iteT ?_
                have hin' : kk ∉ rdy := fun z => hin (mem.mpr z)
                refine ⟨_, rfl, _, rfl, rla, rl.map Int.ofNat, rfl, by rw [← nat_vs]; exact SqL.of J9.rd, by simp; omega, fun ns' p1 perm le hp1 => ?_⟩
                have ens := sort_rdy J9 perm le
                subst ens
                have q1 := Oth.new (S := []) (o := .lst ((rdy.map Int.ofNat).map V.int)) hp1
                refine .inl ⟨p1, _, rfl, SqL.of upd_same, fun t2 ht2 => ?_⟩
                have q2 := Oth.new (S := []) (o := .tup ((rdy.map Int.ofNat).map V.int)) ht2
                have q12 := q1.trans q2
                refine ⟨_, rfl, g, rdy, kk, _, _, rfl, J9.tg.oth q12, mkNats (ns := rdy) (by rw [upd_same, nat_vs]), hg, J9.ok, hk, fun H10 o10 => ?_⟩
                have gA := (J9.ok.add hg hk).1.good hg
                have es : ptxt kk (own12 (fstP g [kk])) = ptxt kk (own12 (fstP g (addN rdy kk))) := ptxt_same hg gA (((J9.ok.add hg hk).2 kk).mpr (.inr rfl)) (List.mem_singleton.mpr rfl)
                have er : resT g text rdy kk = ptxt kk (own12 (fstP g (addN rdy kk))) := by unfold resT; rw [if_neg (fun z => z.elim hin' nt), es]
                exact ⟨x9, by rw [er]; rfl, J9.nil (q12.trans o10), q12.trans o10⟩
          rintro σ H10 ⟨x9', rfl, J10, o10⟩
          have mem : kk ∈ rl ↔ kk ∈ rdy := J10.pm.mem_iff
          refine ⟨fun σ H11 => σ = [some (.ref a), some (.ref b), some (.ref pa), some (.ref s), some (.ref rla), some (.str text), some vpage, some (.int (0 + (i : Int))), some (.str (resT g text rdy kk)), x9', x10, some (.int (kk : Int)), none, none, none, none] ∧
            ∃ rl' : List Nat, H11 rla = some (.lst (rl'.map natV)) ∧ rl'.Perm (addN rdy kk) ∧ By H11 b d pl z ∧ SrvAt C H11 s g text rdy ∧ IsT H11 g.toT (.ref pa) ∧ Oth [rla] H10 H11, ?_, ?_⟩
          · refine ⟨_, rfl, _, rfl, notin J10 ⟨_, rfl, ?_⟩⟩
            by_cases hin : kk ∈ rl
            · rw [decide_eq_true hin]
              refine iteF ⟨rfl, rl, J10.rd, by rw [addN_in J10.ok hg (mem.mp hin)]; exact J10.pm, J10.bx, J10.sv, J10.tg, Oth.refl⟩
            · rw [decide_eq_false hin]
              have hin' : kk ∉ rdy := fun z => hin (mem.mpr z)
              have op : Oth [rla] H10 (upd H10 rla (.lst (rl.map natV ++ [natV kk]))) := Oth.put (by simp) J10.rd
              refine iteT ⟨_, rfl, .inl ⟨rfl, _, SqL.of J10.rd⟩, _, rfl, rla, _, _, rfl, rfl, J10.rd, Nat.lt_of_le_of_lt (by rw [List.length_map]; exact lrl : (rl.map natV).length ≤ 2) (by decide), rfl, rl ++ [kk], by rw [List.map_append]; exact upd_same, ?_, J10.bx.oth op (by simp [J10.ne.1.symm]) (by simp [J10.ne.2.1.symm]) (by simp [J10.ne.2.2.symm]), J10.sv.oth op (by simp [J10.ns.2.2.2.symm]), J10.tg.oth op, op⟩
              obtain ⟨a1, b1⟩ := J10.ok.add hg hk
              refine (J10.pm.append_right [kk]).trans ((List.perm_ext_iff_of_nodup ?_ (a1.asc.imp fun z => Nat.ne_of_lt z)).mpr fun x => by rw [b1 x, List.mem_append, List.mem_singleton])
              exact List.nodup_append.mpr ⟨J10.ok.asc.imp fun z => Nat.ne_of_lt z, by simp, fun x hx y hy e => hin' (by rw [← List.mem_singleton.mp hy, ← e]; exact hx)⟩
          rintro σ H11 ⟨rfl, rl', hrd, hpm, bx11, sv11, tg11, o11⟩
          obtain ⟨dx11, vp11, vr11, e11, _, _⟩ := sv11.ob
          have hl0 := J10.ln
          refine ⟨_, rfl, s, dx11, _, rfl, e11, no_resolve, _, rfl, s, g, text, rdy, kk, rfl, sv11, hg, J10.ok, hk, by omega, fun H12 sv12 o12 => ?_⟩
          obtain ⟨n1, n2', n3', n4'⟩ := J10.ns
          have ln12 := res_len hg J10.ok hk J10.ln
          have la12 := ((J10.ok.add hg hk).1).len hg
          have J12 : W30 C H12 b d pl z s pa rla g (text ++ resT g text rdy kk) (addN rdy kk) rl' := ⟨bx11.oth o12 (by simp [n1]) (by simp [n2']) (by simp [n3']), sv12, o12.keep _ _ (by simp [n4']) hrd, hpm, (J10.ok.add hg hk).1, J10.ne, ln12, tg11.oth o12⟩
          refine ⟨vpage, resT g text rdy kk, _, _, addN rdy kk, rl', rfl, J12, ?_, by rw [← lenA]; omega, s :: rla :: b :: S0, ?_⟩
          · rcases hpg with ⟨et, ev⟩ | ⟨nt, ev⟩
            · have er : resT g text rdy kk = Str.empty := by unfold resT; rw [if_pos (.inr et)]
              exact .inl ⟨by rw [er, appE]; exact et, ev⟩
            · refine .inr ⟨fun z => nt ?_, ev⟩
              have h1 : (text ++ resT g text rdy kk).length = 0 := by rw [z]; rfl
              rw [lenA] at h1
              have h2 : text.length = 0 := by omega
              refine TL.ext_tl ?_
              rw [TL.len_tl] at h2
              rw [List.length_eq_zero_iff.mp h2]
              rfl
          · exact (((oS9.trans (o10.mono (by simp))).mono (fun x hx => List.mem_cons_of_mem _ (List.mem_cons_of_mem _ hx))).trans (o11.mono (by simp))).trans (o12.mono (by simp))
        · refine ⟨vpage, Str.empty, _, _, rdy, rl, rfl, by rw [appE]; exact J, by rw [appE]; exact hpg, ?_, b :: S0, oS8⟩
          have := J.ln
          show text.length + 0 ≤ _
          omega
    rintro σ H8 ⟨vp', due, x9', x11', rdy', rl', rfl, J, hpg', hl, S1, oS1⟩
    have lrd' := J.ok.len hg
    have lrl' : rl'.length ≤ 2 := by rw [J.pm.length_eq]; exact lrd'
    obtain ⟨dx8, vp8, vr8, e8, _, tr8⟩ := J.sv.ob
    refine ⟨_, rfl, _, rfl, _, _, rfl, rfl, szT (by omega), ?_⟩
    refine ⟨_, rfl, _, rfl, .str due, _, _, rfl, .str _, .str _, .str _ _, _, rfl, iteF ⟨_, rfl, s, C, dx8, _, _, rfl, e8, TC, n2, f_sent, _, rfl, .str (text ++ due), _, _, rfl, .str _, .str _, .str _ _, _, rfl, iteF ?_⟩⟩
    refine ⟨_, rfl, s, C, dx8, _, _, rfl, e8, TC, n3, f_ready, _, rfl, rla, rl'.map Int.ofNat, rfl, by rw [← nat_vs]; exact SqL.of J.rd, by simp; omega, fun ns' p1 perm le hp1 => ?_⟩
    have ens := sort_rdy J perm le
    subst ens
    have q1 := Oth.new (S := []) (o := .lst ((rdy'.map Int.ofNat).map V.int)) hp1
    refine .inl ⟨p1, _, rfl, SqL.of upd_same, fun t2 ht2 => ?_⟩
    have q2 := Oth.new (S := []) (o := .tup ((rdy'.map Int.ofNat).map V.int)) ht2
    have q12 := q1.trans q2
    refine ⟨natsT rdy', _, _, rfl, tr8.oth q12, mkNats (ns := rdy') (by rw [upd_same, nat_vs]), (.tup _ _ (by simp; omega) (fun t ht => by obtain ⟨i, _, rfl⟩ := List.mem_map.mp ht; exact .int _ _) : Dep 40 (natsT rdy')), _, rfl, iteF ?_⟩
    exact ⟨_, _, _, _, _, _, _, _, _, rfl, J.nil q12, hpg', S1, oS1.trans (q12.mono (by simp))⟩
  obtain ⟨vpage, x7, x8, x9, x10, x11, text, rdy, rl, rfl, J, hpg, S0, oS0⟩ := hW
  have lrd := J.ok.len hg
  have lrl : rl.length ≤ 2 := by rw [J.pm.length_eq]; exact lrd
  have gX := J.ok.good hg
  obtain ⟨f1, f2, f3, f4, f5, f6, f7⟩ := own_fits gX
  refine ⟨_, rfl, rla, rl.map Int.ofNat, rfl, by rw [← nat_vs]; exact SqL.of J.rd, by simp; omega, fun ns' p1 perm le hp1 => ?_⟩
  have ens := sort_rdy J perm le
  subst ens
  have q1 := Oth.new (S := []) (o := .lst ((rdy.map Int.ofNat).map V.int)) hp1
  refine .inl ⟨p1, _, rfl, SqL.of upd_same, fun t2 ht2 => ?_⟩
  have q2 := Oth.new (S := []) (o := .tup ((rdy.map Int.ofNat).map V.int)) ht2
  have J := J.nil (q1.trans q2)
  have tpr : IsT (upd (upd H7 p1 (.lst ((rdy.map Int.ofNat).map V.int))) t2 (.tup ((rdy.map Int.ofNat).map V.int))) (natsT rdy) (.ref t2) := mkNats (ns := rdy) (by rw [upd_same, nat_vs])
  generalize upd (upd H7 p1 (.lst ((rdy.map Int.ofNat).map V.int))) t2 (.tup ((rdy.map Int.ofNat).map V.int)) = H8 at J tpr
  refine ⟨_, rfl, _, rfl, fstP g rdy, _, _, rfl, J.tg, tpr, rfl, rfl, gX, J.ok.asc, fun sd H9 hsd habS o9 => ?_⟩
  have setS := settle_set gX J.ok.asc
  have hlast : (fstP g rdy).settle.g.comps.length - 1 ≤ 2 := by have := hg.many; show g.comps.length - 1 ≤ 2; omega
  refine ⟨sz, fun t3 ht3 => ⟨sz, fun t4 ht4 => ?_⟩⟩
  have q34 := (Oth.new (S := []) (o := .tup []) ht3).trans (Oth.new (o := .tup []) ht4)
  refine ⟨(fstP g rdy).settle, 0, [], [], _, _, sd, rfl, habS.oth q34 (by simp), setS.good, .mk ((Oth.new (S := []) ht4).tup _ _ upd_same) .nil, .mk upd_same .nil, Nat.zero_le _, (by intro x hx; cases hx), by omega, PathOk.nil, by simp, fun vpg H10 tpg o10 => ?_⟩
  rw [settle_child gX] at tpg
  obtain ⟨c1, c2, c3, c4⟩ := child_facts gX
  refine ⟨_, rfl, sz, fun t5 ht5 => ?_⟩
  have o11 := Oth.new (S := []) (o := .tup [vpg]) ht5
  refine ⟨[child (fstP g rdy) 12 [] 0 []], _, rfl, .mk upd_same (.cons (tpg.oth o11) .nil), by simp only [Nd.hts]; omega, by simp only [Nd.cnts]; omega, fun pz rs H12 hpz ez pz12 o12 => ?_⟩
  have o812 : Oth [] H8 H12 := o9.trans (q34.trans (o10.trans (o11.trans o12)))
  have tg12 := J.tg.oth o812
  have tpr12 := tpr.oth o812
  have lrs : rs.length = (Nd.evs [child (fstP g rdy) 12 [] 0 []]).length := by rw [(paired_get pz12).1, List.length_map]
  refine ⟨pz, rfl, ⟨rs, SqL.of ez⟩, for_list (xs := rs)
    (fun j σ H13 => ∃ (x14 x15 : Option V), σ = [some (.ref a), some (.ref b), some (.ref pa), some (.ref s), some (.ref rla), some (.str text), some vpage, x7, x8, x9, x10, x11, some (.ref t2), some vpg, x14, x15] ∧ Oth [] H12 H13)
    ⟨none, none, rfl, Oth.refl⟩ (fun j σ H13 _ hW => ?_) (fun j x σ H13 hx hW => ?_) (fun σ H13 hW => q _)⟩
  · obtain ⟨_, _, _, o13⟩ := hW
    exact SqL.of (o13.keep _ _ (by simp) ez)
  · obtain ⟨x14, x15, rfl, o13⟩ := hW
    have hj : j < (Nd.evs [child (fstP g rdy) 12 [] 0 []]).length := by rw [← lrs]; exact (List.getElem?_eq_some_iff.mp hx).1
    obtain ⟨m, gm⟩ : ∃ m, (Nd.evs [child (fstP g rdy) 12 [] 0 []])[j]? = some m := ⟨_, List.getElem?_eq_getElem hj⟩
    have mm := List.mem_of_getElem? gm
    have tm : IsT H13 m.toT x := ((paired_get pz12).2 j _ _ (by rw [List.getElem?_map, gm]; rfl) hx).oth o13
    have pm := Nd.evs_pok [child (fstP g rdy) 12 [] 0 []] ⟨c3, trivial⟩ m mm
    have there := fun (k : Nat) => part_there hg J.ok (k := k) mm
    have kid : (∃ c ps rs ns, m = .child [] c ps rs ns) ∨ ∃ p c ps rs ns, m = .child p c ps rs ns ∧ (Nd.child p c ps rs ns).Fit ∧ Nd.cnts ns ≤ 65640 ∧ Nd.hts ns < 14 := by
      rw [child12] at mm
      simp only [Nd.evs, Nd.ev, List.append_nil] at mm
      rcases List.mem_cons.mp mm with rfl | mm
      · exact .inl ⟨_, _, _, _, rfl⟩
      · obtain ⟨a, b, c, p, c', ps, rs, ns, rfl⟩ := Nd.evs_fit _ f1 m mm
        simp only [Nd.cnt] at b
        simp only [Nd.ht] at c
        exact .inr ⟨_, _, _, _, _, rfl, a, by omega, by omega⟩
    rcases kid with ⟨c, ps, rds, ns, rfl⟩ | ⟨p, c, ps, rds, ns, rfl, fit, hc, hh⟩
    · obtain ⟨bb, _, v1, v2, v3, v4, v5, rfl, eb, p0, p1', p2, p3, p4, p5⟩ := IsT.inv6 tm
      obtain ⟨ap, xp, rfl, ep, pp⟩ := p1'.inv
      cases pp
      refine ⟨_, rfl, bb, _, _, _, rfl, rfl, SqT.of eb, at1, _, rfl, bb, _, _, _, rfl, rfl, SqT.of eb, at1, ap, _, rfl, .inr (SqT.of ep), _, _, rfl, rfl, _, rfl, ?_⟩
      unfold tNoPart
      refine sl_end ep fun cc H14 o14 ecc => ?_
      refine ⟨_, rfl, cc, _, rfl, .inr (SqT.of ecc), _, _, rfl, rfl, _, rfl, iteFb (by decide) (iteF ?_)⟩
      exact ⟨_, _, rfl, o13.trans o14⟩
    · obtain ⟨bb, _, v1, v2, v3, v4, v5, rfl, eb, p0, p1', p2, p3, p4, p5⟩ := IsT.inv6 tm
      obtain ⟨g1, g2, g3, g4, g5, g6, g7, g8⟩ := fit
      obtain ⟨ap, xp, y, rfl, ep, tl'⟩ := path_last p1' g1
      refine ⟨_, rfl, bb, _, _, _, rfl, rfl, SqT.of eb, at1, _, rfl, bb, _, _, _, rfl, rfl, SqT.of eb, at1, ap, _, rfl, .inr (SqT.of ep), _, _, rfl, rfl, _, rfl, ?_⟩
      unfold tNoPart
      refine sl_end ep fun cc H14 o14 ecc => ?_
      have edr : (xp ++ [y]).drop ((xp ++ [y]).length - 1) = [y] := by rw [List.length_append, List.length_singleton, Nat.add_sub_cancel, List.drop_left]
      rw [edr] at ecc
      refine ⟨_, rfl, cc, _, rfl, .inr (SqT.of ecc), _, _, rfl, rfl, _, rfl, iteTb (decide_eq_true (by show (0 : Int) < 1; decide)) ?_⟩
      have two : (∃ (an : Addr) (tg' : Str) (zs : List V), y = .ref an ∧ H13 an = some (.tup (.str tg' :: zs)) ∧ tg' ≠ "part") ∨ ∃ kk, lastN p = .part kk := by
        cases e : lastN p with
        | «at» t i =>
          rw [e] at tl'
          obtain ⟨an, x1, x2, x3, rfl, ean, q1', _⟩ := IsT.inv3 tl'
          obtain rfl := q1'.of_str
          exact .inl ⟨an, _, _, rfl, ean, by decide +kernel⟩
        | key t v =>
          rw [e] at tl'
          obtain ⟨an, x1, x2, x3, rfl, ean, q1', _⟩ := IsT.inv3 tl'
          obtain rfl := q1'.of_str
          exact .inl ⟨an, _, _, rfl, ean, by decide +kernel⟩
        | part kk => exact .inr ⟨kk, rfl⟩
      rcases two with ⟨an, tg', zs, rfl, ean, hne⟩ | ⟨kk, ek⟩
      · refine ⟨_, rfl, cc, _, _, _, rfl, rfl, SqT.of ecc, at0, an, _, _, _, rfl, rfl, SqT.of (o14.tup _ _ ean), at0, rfl, _, rfl, iteFb (strF hne) ?_⟩
        exact ⟨_, _, rfl, o13.trans o14⟩
      · rw [ek] at tl' g2
        obtain ⟨an, x1, x2, rfl, ean, q1', q2'⟩ := IsT.inv2 tl'
        obtain rfl := q1'.of_str
        obtain rfl := q2'.of_int
        refine ⟨_, rfl, cc, _, _, _, rfl, rfl, SqT.of ecc, at0, an, _, _, _, rfl, rfl, SqT.of (o14.tup _ _ ean), at0, rfl, _, rfl, iteTb strTr ?_⟩
        obtain ⟨kin, ept⟩ := there kk (by show decide (lastN p = .part kk) = true; rw [decide_eq_true ek])
        have hk := J.ok.few kk kin
        have eb14 := o14.tup _ _ eb
        refine ⟨_, rfl, cc, _, _, _, rfl, rfl, SqT.of ecc, at0, an, _, _, _, rfl, rfl, SqT.of (o14.tup _ _ ean), at1, _, rfl, bb, _, _, _, rfl, rfl, SqT.of eb14, at4, _, rfl, bb, _, _, _, rfl, rfl, SqT.of eb14, at5, kk, rds, ns, _, _, rfl, p4.oth o14, p5.oth o14, g2, g6, g7, g8, by omega, by omega, fun H15 o15 => ?_⟩
        have ecc15 := o15.tup _ _ ecc
        have ean15 := o15.tup _ _ (o14.tup _ _ ean)
        refine ⟨_, rfl, _, rfl, _, rfl, cc, _, _, _, rfl, rfl, SqT.of ecc15, at0, an, _, _, _, rfl, rfl, SqT.of ean15, at1, g, rdy, kk, _, _, rfl, ((tg12.oth o13).oth o14).oth o15, ((tpr12.oth o13).oth o14).oth o15, hg, J.ok, hk, fun H16 o16 => ?_⟩
        have ew : (Nd.child p c ps rds ns).wr = wPart kk rds (Nd.wrs ns) := by simp only [Nd.wr, ek, wChild]
        rw [ept, ew]
        refine ⟨.str (wPart kk rds (Nd.wrs ns)), _, _, rfl, .str _, .str _, .str _ _, _, rfl, iteF ?_⟩
        exact ⟨_, _, rfl, o13.trans (o14.trans (o15.trans o16))⟩
end
theorem fn_none {P : Program} {w : World} {K : PySem.W.Frag} {mg : Str → Option Value} {base : Heap} {f : Addr} {fd : FuncData} {ps : List Str} {k : Nat} {sp : Sp} (no : ∀ vs H Q E, ¬ sp vs H Q E) : FnOk P w K mg base CX0 k f fd ps sp :=
  ⟨fun vs H Q E h => absurd h (no vs H Q E), fun A outer s H args us vs Q E _ _ _ _ h => absurd h (no vs H Q E)⟩
section
variable {P : Program} {w : World} {K : PySem.W.Frag} {mg : Str → Option Value} {base : Heap}
theorem all_value {f g t : Addr} {fd gd td : FuncData} {tv : Tok} (F : Fun K "value" "value" sValue f fd) (bS : Binds K fd ["expression", "scope", "looked"] []) (kS : PySem.W.keepIn K (.ref f) = true) (mS : mg "value" = some (.ref f))
    (G : FnOk P w K mg base CX0 2 g gd ["row", "at"] (spItem K)) (bG : Binds K gd ["row", "at"] []) (kG : PySem.W.keepIn K (.ref g) = true) (mG : mg "_item" = some (.ref g))
    (T : FnOk P w K mg base CX0 1 t td ["row", "at"] (spThere K)) (bT : Binds K td ["row", "at"] []) (kT : PySem.W.keepIn K (.ref t) = true) (mT : mg "_is_there" = some (.ref t)) (mV : mg "VALUES" = some (.int 1000 tv)) :
    ∀ n : Nat, FnOk P w K mg base CX0 (n + 2) f fd ["expression", "scope", "looked"] (spValue n)
  | 0 => fn_none fun vs H Q E h => by obtain ⟨e, c, ve, vc, l, L, _, _, _, _, h, _⟩ := h; omega
  | n + 1 => ok_value (k := n + 2) F (all_value F bS kS mS G bG kG mG T bT kT mT mV n) bS kS mS (G.mono (by omega)) bG kG mG (T.mono (by omega)) bT kT mT mV
theorem all_same {f : Addr} {fd : FuncData} (F : Fun K "_law_same" "_law_same" sSame f fd) (bS : Binds K fd ["actual", "expected"] []) (kS : PySem.W.keepIn K (.ref f) = true) (mS : mg "_law_same" = some (.ref f))
    (m_isinstance : mg "isinstance" = none) (m_tuple : mg "tuple" = none) (m_len : mg "len" = none) (m_range : mg "range" = none) (m_bool : mg "bool" = none) (m_int : mg "int" = none) (m_str : mg "str" = none) :
    ∀ n : Nat, FnOk P w K mg base CX0 n f fd ["actual", "expected"] (spSame n)
  | 0 => fn_none fun vs H Q E h => by obtain ⟨t, v, u, _, _, _, h, _⟩ := h; cases h
  | n + 1 => ok_same F (all_same F bS kS mS m_isinstance m_tuple m_len m_range m_bool m_int m_str n) bS kS mS m_isinstance m_tuple m_len m_range m_bool m_int m_str
theorem all_lawvalue {f : Addr} {fd : FuncData} (F : Fun K "_law_value" "_law_value" sLawValue f fd) (bV : Binds K fd ["e", "scope", "looked"] []) (kV : PySem.W.keepIn K (.ref f) = true) (mV : mg "_law_value" = some (.ref f)) (m_int : mg "int" = none) (m_len : mg "len" = none) :
    ∀ n : Nat, FnOk P w K mg base CX0 n f fd ["e", "scope", "looked"] (spLawValue n)
  | 0 => fn_none fun vs H Q E h => by obtain ⟨e, c, ve, s, ac, ap, as, l, L, _, _, _, _, _, _, _, _, h, _⟩ := h; omega
  | n + 1 => ok_lawvalue F (all_lawvalue F bV kV mV m_int m_len n) bV kV mV m_int m_len
theorem all_expr {f g : Addr} {fd gd : FuncData} (F : Fun K "_law_expr" "_law_expr" sExpr f fd) (bE : Binds K fd ["box", "depth"] []) (kE : PySem.W.keepIn K (.ref f) = true) (mE : mg "_law_expr" = some (.ref f))
    (GR : FnOk P w K mg base CX0 1 g gd ["box", "many"] spDrawY) (bR : Binds K gd ["box", "many"] []) (kR : PySem.W.keepIn K (.ref g) = true) (mR : mg "_law_draw" = some (.ref g)) (m_int : mg "int" = none) :
    ∀ n : Nat, FnOk P w K mg base CX0 (n + 1) f fd ["box", "depth"] (spExprY n)
  | 0 => fn_none fun vs H Q E h => by obtain ⟨z, b, dg, pl, d, _, h, _⟩ := h; omega
  | n + 1 => ok_expr (k := n + 1) F (all_expr F bE kE mE GR bR kR mR m_int n) bE kE mE (GR.mono (by omega)) bR kR mR m_int
theorem all_tpl {fT fN fE fR fK : Addr} {dT dN dE dR dK : FuncData} (FT : Fun K "_law_template" "_law_template" sTemplate fT dT) (FN : Fun K "_law_contents" "_law_contents" sContents fN dN)
    (GE : FnOk P w K mg base CX0 3 fE dE ["box", "depth"] (spExprY 2)) (bE : Binds K dE ["box", "depth"] []) (kE : PySem.W.keepIn K (.ref fE) = true) (mE : mg "_law_expr" = some (.ref fE))
    (GR : FnOk P w K mg base CX0 1 fR dR ["box", "many"] spDrawY) (bR : Binds K dR ["box", "many"] []) (kR : PySem.W.keepIn K (.ref fR) = true) (mR : mg "_law_draw" = some (.ref fR))
    (GK : FnOk P w K mg base CX0 4 fK dK ["box"] spKeyY) (bK : Binds K dK ["box"] []) (kK : PySem.W.keepIn K (.ref fK) = true) (mK : mg "_law_key" = some (.ref fK))
    (bT : Binds K dT ["box", "own", "level", "last", "free"] []) (kT : PySem.W.keepIn K (.ref fT) = true) (mT : mg "_law_template" = some (.ref fT))
    (bN : Binds K dN ["box", "own", "level", "last", "free"] []) (kN : PySem.W.keepIn K (.ref fN) = true) (mN : mg "_law_contents" = some (.ref fN))
    (m_int : mg "int" = none) (m_len : mg "len" = none) (m_range : mg "range" = none) (m_tuple : mg "tuple" = none) :
    ∀ n : Nat, FnOk P w K mg base CX0 (4 + 2 * n) fT dT ["box", "own", "level", "last", "free"] (spTemplateY n) ∧ FnOk P w K mg base CX0 (5 + 2 * n) fN dN ["box", "own", "level", "last", "free"] (spContentsY n)
  | 0 => by
    have t0 : FnOk P w K mg base CX0 4 fT dT ["box", "own", "level", "last", "free"] (spTemplateY 0) := fn_none fun vs H Q E h => by obtain ⟨z, b, dg, pl, own, level, last, r, free, _, _, h, _⟩ := h; omega
    exact ⟨t0, ok_contents (k := 4) FN (GR.mono (by decide)) bR kR mR t0 bT kT mT m_range m_tuple⟩
  | n + 1 => by
    obtain ⟨ht, hn⟩ := all_tpl FT FN GE bE kE mE GR bR kR mR GK bK kK mK bT kT mT bN kN mN m_int m_len m_range m_tuple n
    have t1 : FnOk P w K mg base CX0 (4 + 2 * (n + 1)) fT dT ["box", "own", "level", "last", "free"] (spTemplateY (n + 1)) := by
      have := ok_template (k := 5 + 2 * n) FT (GE.mono (by omega)) bE kE mE (GR.mono (by omega)) bR kR mR (GK.mono (by omega)) bK kK mK hn bN kN mN m_int m_len m_range m_tuple
      exact this.mono (by omega)
    exact ⟨t1, (ok_contents (k := 4 + 2 * (n + 1)) FN (GR.mono (by omega)) bR kR mR t1 bT kT mT m_range m_tuple).mono (by omega)⟩
theorem all_lawlay {f fV : Addr} {fd dV : FuncData} (F : Fun K "_law_lay" "_law_lay" sLawLay f fd)
    (bL : Binds K fd ["contents", "scope", "looked", "address", "repeats", "names"] []) (kL : PySem.W.keepIn K (.ref f) = true) (mL : mg "_law_lay" = some (.ref f))
    (GV : FnOk P w K mg base CX0 4 fV dV ["e", "scope", "looked"] (spLawValue 4)) (bV : Binds K dV ["e", "scope", "looked"] []) (kV : PySem.W.keepIn K (.ref fV) = true) (mV : mg "_law_value" = some (.ref fV))
    (m_range : mg "range" = none) (m_len : mg "len" = none) (m_int : mg "int" = none) :
    ∀ n : Nat, FnOk P w K mg base CX0 (n + 4) f fd ["contents", "scope", "looked", "address", "repeats", "names"] (spLawLay n)
  | 0 => fn_none fun vs H Q E h => by obtain ⟨ts, c, be, re, tk, vt, va, vr, s, sa, sp, ss, l, nl, L, nL, _, _, _, _, _, _, _, _, _, _, _, _, _, _, _, h, _⟩ := h; omega
  | n + 1 => ok_lawlay (k := n + 4) F (all_lawlay F bL kL mL GV bV kV mV m_range m_len m_int n) bL kL mL (GV.mono (by omega)) bV kV mV m_range m_len m_int
theorem all_dis {f fV fW : Addr} {fd dV dW : FuncData} {tR : Tok} (F : Fun K "_dissolved" "_dissolved" sDis f fd)
    (bDd : Binds K fd ["contents", "before", "repeats", "scope", "looked"] []) (kDd : PySem.W.keepIn K (.ref f) = true) (mDd : mg "_dissolved" = some (.ref f))
    (GV : FnOk P w K mg base CX0 6 fV dV ["expression", "scope", "looked"] (spValue 4)) (bV : Binds K dV ["expression", "scope", "looked"] []) (kV : PySem.W.keepIn K (.ref fV) = true) (mV : mg "value" = some (.ref fV))
    (GDw : FnOk P w K mg base CX0 8 fW dW ["template", "other", "scope", "looked"] spWished) (bDw : Binds K dW ["template", "other", "scope", "looked"] []) (kDw : PySem.W.keepIn K (.ref fW) = true) (mDw : mg "_wished" = some (.ref fW))
    (m_enumerate : mg "enumerate" = none) (m_range : mg "range" = none) (c_RE : mg "REPEATS" = some (.int 6 tR)) :
    ∀ n : Nat, FnOk P w K mg base CX0 (n + 8) f fd ["contents", "before", "repeats", "scope", "looked"] (spDis n)
  | 0 => fn_none fun vs H Q E h => by obtain ⟨ts, c, be, re, vt, vb, vr, vc, l, L, _, _, _, _, _, _, h, _⟩ := h; omega
  | n + 1 => ok_dis (k := n + 8) F (all_dis F bDd kDd mDd GV bV kV mV GDw bDw kDw mDw m_enumerate m_range c_RE n) bDd kDd mDd (GV.mono (by omega)) bV kV mV (GDw.mono (by omega)) bDw kDw mDw m_enumerate m_range c_RE
theorem all_fc {fF fC fL fV : Addr} {dF dC dL dV : FuncData} (FF : Fun K "_law_fill" "_law_fill" sLawFill fF dF) (FC : Fun K "_law_child" "_law_child" sLawChild fC dC)
    (bLf : Binds K dF ["about", "owner", "scope", "looked", "contents", "path"] []) (kLf : PySem.W.keepIn K (.ref fF) = true) (mLf : mg "_law_fill" = some (.ref fF))
    (bLc : Binds K dC ["about", "path", "number", "props"] []) (kLc : PySem.W.keepIn K (.ref fC) = true) (mLc : mg "_law_child" = some (.ref fC))
    (GLl : FnOk P w K mg base CX0 8 fL dL ["contents", "scope", "looked", "address", "repeats", "names"] (spLawLay 4)) (bLl : Binds K dL ["contents", "scope", "looked", "address", "repeats", "names"] []) (kLl : PySem.W.keepIn K (.ref fL) = true) (mLl : mg "_law_lay" = some (.ref fL))
    (GV : FnOk P w K mg base CX0 4 fV dV ["e", "scope", "looked"] (spLawValue 4)) (bV : Binds K dV ["e", "scope", "looked"] []) (kV : PySem.W.keepIn K (.ref fV) = true) (mV : mg "_law_value" = some (.ref fV))
    (m_len : mg "len" = none) (m_min : mg "min" = none) (m_str : mg "str" = none) (m_tuple : mg "tuple" = none) (m_range : mg "range" = none) :
    ∀ n : Nat, FnOk P w K mg base CX0 (8 + 2 * n) fF dF ["about", "owner", "scope", "looked", "contents", "path"] (spLawFill n) ∧ FnOk P w K mg base CX0 (9 + 2 * n) fC dC ["about", "path", "number", "props"] (spLawChild n)
  | 0 => by
    have f0 : FnOk P w K mg base CX0 8 fF dF ["about", "owner", "scope", "looked", "contents", "path"] (spLawFill 0) := fn_none fun vs H Q E h => by
      obtain ⟨X, own, free, o, p, c, ts, vo, vt, vp, ab, s, sa, sp, ss, l, L, _, _, _, _, _, _, _, _, _, _, _, _, _, _, _, _, h, _⟩ := h; omega
    exact ⟨f0, ok_lawchild (k := 8) FC f0 bLf kLf mLf m_len m_range m_tuple⟩
  | n + 1 => by
    obtain ⟨hf, hc⟩ := all_fc FF FC bLf kLf mLf bLc kLc mLc GLl bLl kLl mLl GV bV kV mV m_len m_min m_str m_tuple m_range n
    have f1 : FnOk P w K mg base CX0 (8 + 2 * (n + 1)) fF dF ["about", "owner", "scope", "looked", "contents", "path"] (spLawFill (n + 1)) := by
      have := ok_lawfill (k := 9 + 2 * n) FF (hf.mono (by omega)) bLf kLf mLf (GLl.mono (by omega)) bLl kLl mLl (GV.mono (by omega)) bV kV mV hc bLc kLc mLc m_len m_min m_str m_tuple
      exact this.mono (by omega)
    exact ⟨f1, (ok_lawchild (k := 8 + 2 * (n + 1)) FC f1 bLf kLf mLf m_len m_range m_tuple).mono (by omega)⟩
theorem all_mkn {fN fC fH fP fO fD fV : Addr} {dN dC dH dP dO dD dV : FuncData} (FN : Fun K "_make_nodes" "_make_nodes" sMakeNodes fN dN) (FC : Fun K "_make_component" "_make_component" sMakeComp fC dC) (FH : Fun K "_make_child" "_make_child" sMakeChild fH dH) (FP : Fun K "_make_part" "_make_part" sMakePart fP dP) (FO : Fun K "_make_node" "_make_node" sMakeNode fO dO)
    (bN : Binds K dN ["given", "contents", "owner", "around", "scope", "looked"] []) (kN : PySem.W.keepIn K (.ref fN) = true) (mN : mg "_make_nodes" = some (.ref fN))
    (bC : Binds K dC ["given", "component", "path", "props"] []) (kC : PySem.W.keepIn K (.ref fC) = true) (mC : mg "_make_component" = some (.ref fC))
    (bH : Binds K dH ["given", "component", "path", "props"] []) (kH : PySem.W.keepIn K (.ref fH) = true) (mH : mg "_make_child" = some (.ref fH))
    (bP : Binds K dP ["given", "part", "path"] []) (kP : PySem.W.keepIn K (.ref fP) = true) (mP : mg "_make_part" = some (.ref fP))
    (bO : Binds K dO ["given", "template", "owner", "path", "scope", "looked"] []) (kO : PySem.W.keepIn K (.ref fO) = true) (mO : mg "_make_node" = some (.ref fO))
    (GDo : FnOk P w K mg base CX0 13 fD dD ["contents", "scope", "looked"] (spLayOut 4)) (bDo : Binds K dD ["contents", "scope", "looked"] []) (kDo : PySem.W.keepIn K (.ref fD) = true) (mDo : mg "lay_out" = some (.ref fD))
    (GV : FnOk P w K mg base CX0 6 fV dV ["expression", "scope", "looked"] (spValue 4)) (bV : Binds K dV ["expression", "scope", "looked"] []) (kV : PySem.W.keepIn K (.ref fV) = true) (mV : mg "value" = some (.ref fV))
    (m_tuple : mg "tuple" = none) (m_sorted : mg "sorted" = none) (m_set : mg "set" = none) (m_str : mg "str" = none) :
    ∀ n : Nat, FnOk P w K mg base CX0 (13 + 5 * n) fN dN ["given", "contents", "owner", "around", "scope", "looked"] (spMkNodes P w n) ∧ FnOk P w K mg base CX0 (14 + 5 * n) fC dC ["given", "component", "path", "props"] (spMkComp P w n)
  | 0 => by
    have n0 : FnOk P w K mg base CX0 13 fN dN ["given", "contents", "owner", "around", "scope", "looked"] (spMkNodes P w 0) := fn_none fun vs H Q E h => by
      obtain ⟨X, own, free, o, p, c, ts, vt, vo, vp, vc, ga, td, l, L, _, _, _, _, _, _, _, _, _, _, _, _, _, _, h, _⟩ := h; omega
    exact ⟨n0, ok_mkcomp (k := 13) FC n0 bN kN mN m_tuple m_sorted m_set⟩
  | n + 1 => by
    obtain ⟨hn, hc⟩ := all_mkn FN FC FH FP FO bN kN mN bC kC mC bH kH mH bP kP mP bO kO mO GDo bDo kDo mDo GV bV kV mV m_tuple m_sorted m_set m_str n
    have hh := ok_mkchild (k := 14 + 5 * n) FH hc bC kC mC
    have hp := ok_mkpart (k := 15 + 5 * n) FP (hh.mono (by omega)) bH kH mH
    have ho := ok_mknode (k := 16 + 5 * n) FO (hn.mono (by omega)) bN kN mN (hh.mono (by omega)) bH kH mH (hp.mono (by omega)) bP kP mP (GV.mono (by omega)) bV kV mV m_tuple m_str
    have n1 : FnOk P w K mg base CX0 (13 + 5 * (n + 1)) fN dN ["given", "contents", "owner", "around", "scope", "looked"] (spMkNodes P w (n + 1)) :=
      (ok_mknodes (k := 17 + 5 * n) FN (GDo.mono (by omega)) bDo kDo mDo (ho.mono (by omega)) bO kO mO m_tuple).mono (by omega)
    exact ⟨n1, (ok_mkcomp (k := 13 + 5 * (n + 1)) FC n1 bN kN mN m_tuple m_sorted m_set).mono (by omega)⟩
theorem all_compsin {f : Addr} {fd : FuncData} (F : Fun K "_components_in" "_components_in" sCompsIn f fd) (bS : Binds K fd ["nodes"] []) (kS : PySem.W.keepIn K (.ref f) = true) (mS : mg "_components_in" = some (.ref f)) :
    ∀ n : Nat, FnOk P w K mg base CX0 n f fd ["nodes"] (spCompsIn n)
  | 0 => fn_none fun vs H Q E h => by obtain ⟨ns, v, _, _, h, _⟩ := h; omega
  | n + 1 => ok_compsin F (all_compsin F bS kS mS n) bS kS mS
theorem all_people {f : Addr} {fd : FuncData} (F : Fun K "_law_people" "_law_people" sPeople f fd) (bS : Binds K fd ["nodes"] []) (kS : PySem.W.keepIn K (.ref f) = true) (mS : mg "_law_people" = some (.ref f)) :
    ∀ n : Nat, FnOk P w K mg base CX0 n f fd ["nodes"] (spPeople n)
  | 0 => fn_none fun vs H Q E h => by obtain ⟨ns, v, _, _, h, _⟩ := h; omega
  | n + 1 => ok_people F (all_people F bS kS mS n) bS kS mS
end
section
variable {P : Program} {w : World} {K : PySem.W.Frag} {mg : Str → Option Value} {base : Heap}
theorem all_wns {fN fO fC fP fU fM fW fA : Addr} {dN dO dC dP dU dM dW dA : FuncData} (FN : Fun K "_nodes" "_nodes" sWNodes fN dN) (FO : Fun K "_node" "_node" sWNode fO dO) (FC : Fun K "_child" "_child" sWChild fC dC) (FP : Fun K "write_part" "write_part" sWPart fP dP)
    (bN : Binds K dN ["nodes"] []) (kN : PySem.W.keepIn K (.ref fN) = true) (mN : mg "_nodes" = some (.ref fN))
    (bO : Binds K dO ["node"] []) (kO : PySem.W.keepIn K (.ref fO) = true) (mO : mg "_node" = some (.ref fO))
    (bC : Binds K dC ["name", "component", "props", "reads", "inner"] []) (kC : PySem.W.keepIn K (.ref fC) = true) (mC : mg "_child" = some (.ref fC))
    (bP : Binds K dP ["k", "reads", "nodes"] []) (kP : PySem.W.keepIn K (.ref fP) = true) (mP : mg "write_part" = some (.ref fP))
    (GU : FnOk P w K mg base CX0 1 fU dU ["numbers"] spNums) (bU : Binds K dU ["numbers"] []) (kU : PySem.W.keepIn K (.ref fU) = true) (mU : mg "_numbers" = some (.ref fU))
    (GM : FnOk P w K mg base CX0 2 fM dM ["name"] spWName) (bM : Binds K dM ["name"] []) (kM : PySem.W.keepIn K (.ref fM) = true) (mM : mg "_name" = some (.ref fM))
    (GW : FnOk P w K mg base CX0 1 fW dW ["words"] spWords) (bW : Binds K dW ["words"] []) (kW : PySem.W.keepIn K (.ref fW) = true) (mW : mg "_words" = some (.ref fW))
    (GA : FnOk P w K mg base CX0 1 fA dA ["action"] spWAct) (bA : Binds K dA ["action"] []) (kA : PySem.W.keepIn K (.ref fA) = true) (mA : mg "_action" = some (.ref fA)) (m_str : mg "str" = none) :
    ∀ n : Nat, FnOk P w K mg base CX0 (4 * n + 4) fN dN ["nodes"] (spWNodes n) ∧ FnOk P w K mg base CX0 (4 * n + 5) fP dP ["k", "reads", "nodes"] (spWPart n)
  | 0 => by
    have g0 : FnOk P w K mg base CX0 4 fN dN ["nodes"] (spWNodes 0) := fn_none fun vs H Q E h => by
      obtain ⟨ns, v, _, _, _, _, h, _⟩ := h; omega
    exact ⟨g0, ok_wpart (k := 4) FP g0 bN kN mN (GU.mono (by omega)) bU kU mU m_str⟩
  | n + 1 => by
    obtain ⟨gn, gp⟩ := all_wns FN FO FC FP bN kN mN bO kO mO bC kC mC bP kP mP GU bU kU mU GM bM kM mM GW bW kW mW GA bA kA mA m_str n
    have gc := ok_wchild (k := 4 * n + 5) FC (gn.mono (by omega)) bN kN mN (GU.mono (by omega)) bU kU mU (GM.mono (by omega)) bM kM mM (GW.mono (by omega)) bW kW mW gp bP kP mP m_str
    have go := ok_wnode (k := 4 * n + 6) FO (gn.mono (by omega)) bN kN mN (GM.mono (by omega)) bM kM mM (GA.mono (by omega)) bA kA mA (GW.mono (by omega)) bW kW mW gc bC kC mC m_str
    have g1 : FnOk P w K mg base CX0 (4 * (n + 1) + 4) fN dN ["nodes"] (spWNodes (n + 1)) := (ok_wnodes (k := 4 * n + 7) FN go bO kO mO).mono (by omega)
    exact ⟨g1, ok_wpart (k := 4 * (n + 1) + 4) FP g1 bN kN mN (GU.mono (by omega)) bU kU mU m_str⟩
theorem all_ptext {f fP : Addr} {fd dP : FuncData} (F : Fun K "_part_text" "_part_text" sPText f fd) (bS : Binds K fd ["nodes", "part"] []) (kS : PySem.W.keepIn K (.ref f) = true) (mS : mg "_part_text" = some (.ref f))
    (G : ∀ n : Nat, FnOk P w K mg base CX0 (4 * n + 5) fP dP ["k", "reads", "nodes"] (spWPart n)) (bP : Binds K dP ["k", "reads", "nodes"] []) (kP : PySem.W.keepIn K (.ref fP) = true) (mP : mg "write_part" = some (.ref fP)) :
    ∀ n : Nat, FnOk P w K mg base CX0 (4 * n + 6) f fd ["nodes", "part"] (spPText n)
  | 0 => fn_none fun vs H Q E h => by obtain ⟨k, ns, v, _, _, _, _, _, h, _⟩ := h; omega
  | n + 1 => (ok_ptext (k := 4 * n + 6) F (all_ptext F bS kS mS G bP kP mP n) bS kS mS ((G n).mono (by omega)) bP kP mP).mono (by omega)
theorem all_lwrite {f fM fN : Addr} {fd dM dN : FuncData} (F : Fun K "_law_write" "_law_write" sLWrite f fd) (bS : Binds K fd ["nodes", "out"] []) (kS : PySem.W.keepIn K (.ref f) = true) (mS : mg "_law_write" = some (.ref f))
    (GM : FnOk P w K mg base CX0 2 fM dM ["name"] spWName) (bM : Binds K dM ["name"] []) (kM : PySem.W.keepIn K (.ref fM) = true) (mM : mg "_law_name" = some (.ref fM))
    (GN : FnOk P w K mg base CX0 1 fN dN ["row"] spNums) (bN : Binds K dN ["row"] []) (kN : PySem.W.keepIn K (.ref fN) = true) (mN : mg "_law_numbers" = some (.ref fN)) (m_str : mg "str" = none) (m_len : mg "len" = none) :
    ∀ n : Nat, FnOk P w K mg base CX0 (n + 3) f fd ["nodes", "out"] (spLWrite n)
  | 0 => fn_none fun vs H Q E h => by obtain ⟨ns, v, o, L, t, us, _, _, _, _, _, _, h, _⟩ := h; omega
  | n + 1 => ok_lwrite (k := n + 3) F (all_lwrite F bS kS mS GM bM kM mM GN bN kN mN m_str m_len n) bS kS mS (GM.mono (by omega)) bM kM mM (GN.mono (by omega)) bN kN mN m_str m_len
theorem all_levery {f : Addr} {fd : FuncData} (F : Fun K "_law_every" "_law_every" sLEvery f fd) (bS : Binds K fd ["nodes"] []) (kS : PySem.W.keepIn K (.ref f) = true) (mS : mg "_law_every" = some (.ref f)) :
    ∀ n : Nat, FnOk P w K mg base CX0 n f fd ["nodes"] (spLEvery n)
  | 0 => fn_none fun vs H Q E h => by obtain ⟨ns, v, _, _, h, _⟩ := h; omega
  | n + 1 => ok_levery F (all_levery F bS kS mS n) bS kS mS
end
theorem all_mk {l : PySem.W.OpenLaw} {w : World} {K : PySem.W.Frag} {h : Heap} {mg : Str → Option Value} {fa fWpg fWpt fWns fWnd fWch fWwd fWnm fWac fWnu fV fH fI fDo fDd fDw fDk fMg fMc fMn fMo fMh fMp fCo fCi fWf fWs fWp fWtx fC fD fR fS fE fK fT fN fA fP fB fLv fLl fLf fLc fLp fLa fLs fLi fLnu fLnm fLwr fLpg fLev fLpt fw fSv0 fSrs fSrn fSwa fSsd CSv : Addr} (X : K.In h) (G : h.Ns mainGlobals mg) (hfa : mg "law" = some (.ref fa))
    {odWpg anWpg odWpt anWpt odWns anWns odWnd anWnd odWch anWch odWwd anWwd odWnm anWnm odWac anWac odWnu anWnu odV anV odH anH odI anI odDo anDo odDd anDd odDw anDw odDk anDk odMg anMg odMc anMc odMn anMn odMo anMo odMh anMh odMp anMp odCo anCo odCi anCi odWf anWf odWs anWs odWp anWp odWtx anWtx odC anC odD anD odR anR odS anS odE anE odK anK odT anT odN anN odA anA odP anP odB anB odLv anLv odLl anLl odLf anLf odLc anLc odLp anLp odLa anLa odLs anLs odLi anLi odLnu anLnu odLnm anLnm odLwr anLwr odLpg anLpg odLev anLev odLpt anLpt odw anw odSv0 anSv0 odSrs anSrs odSrn anSrn odSwa anSwa odSsd anSsd : Option Addr} {slWpg slWpt slWns slWnd slWch slWwd slWnm slWac slWnu slV slH slI slDo slDd slDw slDk slMg slMc slMn slMo slMh slMp slCo slCi slWf slWs slWp slWtx slC slD slR slS slE slK slT slN slA slP slB slLv slLl slLf slLc slLp slLa slLs slLi slLnu slLnm slLwr slLpg slLev slLpt slw slSv0 slSrs slSrn slSwa slSsd : Array (Option Value)} {ocWpg kVWpg dcWpg pmWpg cdWpg ctWpg ocWpt kVWpt dcWpt pmWpt cdWpt ctWpt ocWns kVWns dcWns pmWns cdWns ctWns ocWnd kVWnd dcWnd pmWnd cdWnd ctWnd ocWch kVWch dcWch pmWch cdWch ctWch ocWwd kVWwd dcWwd pmWwd cdWwd ctWwd ocWnm kVWnm dcWnm pmWnm cdWnm ctWnm ocWac kVWac dcWac pmWac cdWac ctWac ocWnu kVWnu dcWnu pmWnu cdWnu ctWnu ocV kVV dcV pmV cdV ctV ocH kVH dcH pmH cdH ctH ocI kVI dcI pmI cdI ctI ocDo kVDo dcDo pmDo cdDo ctDo ocDd kVDd dcDd pmDd cdDd ctDd ocDw kVDw dcDw pmDw cdDw ctDw ocDk kVDk dcDk pmDk cdDk ctDk ocMg kVMg dcMg pmMg cdMg ctMg ocMc kVMc dcMc pmMc cdMc ctMc ocMn kVMn dcMn pmMn cdMn ctMn ocMo kVMo dcMo pmMo cdMo ctMo ocMh kVMh dcMh pmMh cdMh ctMh ocMp kVMp dcMp pmMp cdMp ctMp ocCo kVCo dcCo pmCo cdCo ctCo ocCi kVCi dcCi pmCi cdCi ctCi ocWf kVWf dcWf pmWf cdWf ctWf ocWs kVWs dcWs pmWs cdWs ctWs ocWp kVWp dcWp pmWp cdWp ctWp ocWtx kVWtx dcWtx pmWtx cdWtx ctWtx ocC kVC dcC pmC cdC ctC ocD kVD dcD pmD cdD ctD ocR kVR dcR pmR cdR ctR ocS kVS dcS pmS cdS ctS ocE kVE dcE pmE cdE ctE ocK kVK dcK pmK cdK ctK ocT kVT dcT pmT cdT ctT ocN kVN dcN pmN cdN ctN ocA kVA dcA pmA cdA ctA ocP kVP dcP pmP cdP ctP ocB kVB dcB pmB cdB ctB ocLv kVLv dcLv pmLv cdLv ctLv ocLl kVLl dcLl pmLl cdLl ctLl ocLf kVLf dcLf pmLf cdLf ctLf ocLc kVLc dcLc pmLc cdLc ctLc ocLp kVLp dcLp pmLp cdLp ctLp ocLa kVLa dcLa pmLa cdLa ctLa ocLs kVLs dcLs pmLs cdLs ctLs ocLi kVLi dcLi pmLi cdLi ctLi ocLnu kVLnu dcLnu pmLnu cdLnu ctLnu ocLnm kVLnm dcLnm pmLnm cdLnm ctLnm ocLwr kVLwr dcLwr pmLwr cdLwr ctLwr ocLpg kVLpg dcLpg pmLpg cdLpg ctLpg ocLev kVLev dcLev pmLev cdLev ctLev ocLpt kVLpt dcLpt pmLpt cdLpt ctLpt ocw kVw dcw pmw cdw ctw ocSv0 kVSv0 dcSv0 pmSv0 cdSv0 ctSv0 ocSrs kVSrs dcSrs pmSrs cdSrs ctSrs ocSrn kVSrn dcSrn pmSrn cdSrn ctSrn ocSwa kVSwa dcSwa pmSwa cdSwa ctSwa ocSsd kVSsd dcSsd pmSsd cdSsd ctSsd : Value} {tv : Tok} {tR : Tok}
    (aWpg : PySem.W.nsIn K mainGlobals "write_page" = some (some (.ref fWpg))) (lWpg : K.lookup fWpg = some ⟨ocWpg, odWpg, .func (PySem.W.fnOf "write_page" "write_page" (defArgs sWPage) (defBody sWPage) (defScope sWPage) .none kVWpg dcWpg pmWpg anWpg cdWpg ctWpg), slWpg⟩) (cWpg : PySem.W.codeIn K cdWpg "write_page" = true) (kWpg : PySem.W.keepIn K (.ref fWpg) = true)
    (aWpt : PySem.W.nsIn K mainGlobals "write_part" = some (some (.ref fWpt))) (lWpt : K.lookup fWpt = some ⟨ocWpt, odWpt, .func (PySem.W.fnOf "write_part" "write_part" (defArgs sWPart) (defBody sWPart) (defScope sWPart) .none kVWpt dcWpt pmWpt anWpt cdWpt ctWpt), slWpt⟩) (cWpt : PySem.W.codeIn K cdWpt "write_part" = true) (kWpt : PySem.W.keepIn K (.ref fWpt) = true)
    (aWns : PySem.W.nsIn K mainGlobals "_nodes" = some (some (.ref fWns))) (lWns : K.lookup fWns = some ⟨ocWns, odWns, .func (PySem.W.fnOf "_nodes" "_nodes" (defArgs sWNodes) (defBody sWNodes) (defScope sWNodes) .none kVWns dcWns pmWns anWns cdWns ctWns), slWns⟩) (cWns : PySem.W.codeIn K cdWns "_nodes" = true) (kWns : PySem.W.keepIn K (.ref fWns) = true)
    (aWnd : PySem.W.nsIn K mainGlobals "_node" = some (some (.ref fWnd))) (lWnd : K.lookup fWnd = some ⟨ocWnd, odWnd, .func (PySem.W.fnOf "_node" "_node" (defArgs sWNode) (defBody sWNode) (defScope sWNode) .none kVWnd dcWnd pmWnd anWnd cdWnd ctWnd), slWnd⟩) (cWnd : PySem.W.codeIn K cdWnd "_node" = true) (kWnd : PySem.W.keepIn K (.ref fWnd) = true)
    (aWch : PySem.W.nsIn K mainGlobals "_child" = some (some (.ref fWch))) (lWch : K.lookup fWch = some ⟨ocWch, odWch, .func (PySem.W.fnOf "_child" "_child" (defArgs sWChild) (defBody sWChild) (defScope sWChild) .none kVWch dcWch pmWch anWch cdWch ctWch), slWch⟩) (cWch : PySem.W.codeIn K cdWch "_child" = true) (kWch : PySem.W.keepIn K (.ref fWch) = true)
    (aWwd : PySem.W.nsIn K mainGlobals "_words" = some (some (.ref fWwd))) (lWwd : K.lookup fWwd = some ⟨ocWwd, odWwd, .func (PySem.W.fnOf "_words" "_words" (defArgs sWords) (defBody sWords) (defScope sWords) .none kVWwd dcWwd pmWwd anWwd cdWwd ctWwd), slWwd⟩) (cWwd : PySem.W.codeIn K cdWwd "_words" = true) (kWwd : PySem.W.keepIn K (.ref fWwd) = true)
    (aWnm : PySem.W.nsIn K mainGlobals "_name" = some (some (.ref fWnm))) (lWnm : K.lookup fWnm = some ⟨ocWnm, odWnm, .func (PySem.W.fnOf "_name" "_name" (defArgs sWName) (defBody sWName) (defScope sWName) .none kVWnm dcWnm pmWnm anWnm cdWnm ctWnm), slWnm⟩) (cWnm : PySem.W.codeIn K cdWnm "_name" = true) (kWnm : PySem.W.keepIn K (.ref fWnm) = true)
    (aWac : PySem.W.nsIn K mainGlobals "_action" = some (some (.ref fWac))) (lWac : K.lookup fWac = some ⟨ocWac, odWac, .func (PySem.W.fnOf "_action" "_action" (defArgs sWAct) (defBody sWAct) (defScope sWAct) .none kVWac dcWac pmWac anWac cdWac ctWac), slWac⟩) (cWac : PySem.W.codeIn K cdWac "_action" = true) (kWac : PySem.W.keepIn K (.ref fWac) = true)
    (aWnu : PySem.W.nsIn K mainGlobals "_numbers" = some (some (.ref fWnu))) (lWnu : K.lookup fWnu = some ⟨ocWnu, odWnu, .func (PySem.W.fnOf "_numbers" "_numbers" (defArgs sNums) (defBody sNums) (defScope sNums) .none kVWnu dcWnu pmWnu anWnu cdWnu ctWnu), slWnu⟩) (cWnu : PySem.W.codeIn K cdWnu "_numbers" = true) (kWnu : PySem.W.keepIn K (.ref fWnu) = true)
    (aV : PySem.W.nsIn K mainGlobals "value" = some (some (.ref fV))) (lV : K.lookup fV = some ⟨ocV, odV, .func (PySem.W.fnOf "value" "value" (defArgs sValue) (defBody sValue) (defScope sValue) .none kVV dcV pmV anV cdV ctV), slV⟩) (cV : PySem.W.codeIn K cdV "value" = true) (kV : PySem.W.keepIn K (.ref fV) = true)
    (aH : PySem.W.nsIn K mainGlobals "_is_there" = some (some (.ref fH))) (lH : K.lookup fH = some ⟨ocH, odH, .func (PySem.W.fnOf "_is_there" "_is_there" (defArgs sThere) (defBody sThere) (defScope sThere) .none kVH dcH pmH anH cdH ctH), slH⟩) (cH : PySem.W.codeIn K cdH "_is_there" = true) (kH : PySem.W.keepIn K (.ref fH) = true)
    (aI : PySem.W.nsIn K mainGlobals "_item" = some (some (.ref fI))) (lI : K.lookup fI = some ⟨ocI, odI, .func (PySem.W.fnOf "_item" "_item" (defArgs sItem) (defBody sItem) (defScope sItem) .none kVI dcI pmI anI cdI ctI), slI⟩) (cI : PySem.W.codeIn K cdI "_item" = true) (kI : PySem.W.keepIn K (.ref fI) = true)
    (aDo : PySem.W.nsIn K mainGlobals "lay_out" = some (some (.ref fDo))) (lDo : K.lookup fDo = some ⟨ocDo, odDo, .func (PySem.W.fnOf "lay_out" "lay_out" (defArgs sLayOut) (defBody sLayOut) (defScope sLayOut) .none kVDo dcDo pmDo anDo cdDo ctDo), slDo⟩) (cDo : PySem.W.codeIn K cdDo "lay_out" = true) (kDo : PySem.W.keepIn K (.ref fDo) = true)
    (aDd : PySem.W.nsIn K mainGlobals "_dissolved" = some (some (.ref fDd))) (lDd : K.lookup fDd = some ⟨ocDd, odDd, .func (PySem.W.fnOf "_dissolved" "_dissolved" (defArgs sDis) (defBody sDis) (defScope sDis) .none kVDd dcDd pmDd anDd cdDd ctDd), slDd⟩) (cDd : PySem.W.codeIn K cdDd "_dissolved" = true) (kDd : PySem.W.keepIn K (.ref fDd) = true)
    (aDw : PySem.W.nsIn K mainGlobals "_wished" = some (some (.ref fDw))) (lDw : K.lookup fDw = some ⟨ocDw, odDw, .func (PySem.W.fnOf "_wished" "_wished" (defArgs sWished) (defBody sWished) (defScope sWished) .none kVDw dcDw pmDw anDw cdDw ctDw), slDw⟩) (cDw : PySem.W.codeIn K cdDw "_wished" = true) (kDw : PySem.W.keepIn K (.ref fDw) = true)
    (aDk : PySem.W.nsIn K mainGlobals "_by_key" = some (some (.ref fDk))) (lDk : K.lookup fDk = some ⟨ocDk, odDk, .func (PySem.W.fnOf "_by_key" "_by_key" (defArgs sByKey) (defBody sByKey) (defScope sByKey) .none kVDk dcDk pmDk anDk cdDk ctDk), slDk⟩) (cDk : PySem.W.codeIn K cdDk "_by_key" = true) (kDk : PySem.W.keepIn K (.ref fDk) = true)
    (aMg : PySem.W.nsIn K mainGlobals "make_page" = some (some (.ref fMg))) (lMg : K.lookup fMg = some ⟨ocMg, odMg, .func (PySem.W.fnOf "make_page" "make_page" (defArgs sMakePage) (defBody sMakePage) (defScope sMakePage) .none kVMg dcMg pmMg anMg cdMg ctMg), slMg⟩) (cMg : PySem.W.codeIn K cdMg "make_page" = true) (kMg : PySem.W.keepIn K (.ref fMg) = true)
    (aMc : PySem.W.nsIn K mainGlobals "_make_component" = some (some (.ref fMc))) (lMc : K.lookup fMc = some ⟨ocMc, odMc, .func (PySem.W.fnOf "_make_component" "_make_component" (defArgs sMakeComp) (defBody sMakeComp) (defScope sMakeComp) .none kVMc dcMc pmMc anMc cdMc ctMc), slMc⟩) (cMc : PySem.W.codeIn K cdMc "_make_component" = true) (kMc : PySem.W.keepIn K (.ref fMc) = true)
    (aMn : PySem.W.nsIn K mainGlobals "_make_nodes" = some (some (.ref fMn))) (lMn : K.lookup fMn = some ⟨ocMn, odMn, .func (PySem.W.fnOf "_make_nodes" "_make_nodes" (defArgs sMakeNodes) (defBody sMakeNodes) (defScope sMakeNodes) .none kVMn dcMn pmMn anMn cdMn ctMn), slMn⟩) (cMn : PySem.W.codeIn K cdMn "_make_nodes" = true) (kMn : PySem.W.keepIn K (.ref fMn) = true)
    (aMo : PySem.W.nsIn K mainGlobals "_make_node" = some (some (.ref fMo))) (lMo : K.lookup fMo = some ⟨ocMo, odMo, .func (PySem.W.fnOf "_make_node" "_make_node" (defArgs sMakeNode) (defBody sMakeNode) (defScope sMakeNode) .none kVMo dcMo pmMo anMo cdMo ctMo), slMo⟩) (cMo : PySem.W.codeIn K cdMo "_make_node" = true) (kMo : PySem.W.keepIn K (.ref fMo) = true)
    (aMh : PySem.W.nsIn K mainGlobals "_make_child" = some (some (.ref fMh))) (lMh : K.lookup fMh = some ⟨ocMh, odMh, .func (PySem.W.fnOf "_make_child" "_make_child" (defArgs sMakeChild) (defBody sMakeChild) (defScope sMakeChild) .none kVMh dcMh pmMh anMh cdMh ctMh), slMh⟩) (cMh : PySem.W.codeIn K cdMh "_make_child" = true) (kMh : PySem.W.keepIn K (.ref fMh) = true)
    (aMp : PySem.W.nsIn K mainGlobals "_make_part" = some (some (.ref fMp))) (lMp : K.lookup fMp = some ⟨ocMp, odMp, .func (PySem.W.fnOf "_make_part" "_make_part" (defArgs sMakePart) (defBody sMakePart) (defScope sMakePart) .none kVMp dcMp pmMp anMp cdMp ctMp), slMp⟩) (cMp : PySem.W.codeIn K cdMp "_make_part" = true) (kMp : PySem.W.keepIn K (.ref fMp) = true)
    (aCo : PySem.W.nsIn K mainGlobals "components_of" = some (some (.ref fCo))) (lCo : K.lookup fCo = some ⟨ocCo, odCo, .func (PySem.W.fnOf "components_of" "components_of" (defArgs sCompsOf) (defBody sCompsOf) (defScope sCompsOf) .none kVCo dcCo pmCo anCo cdCo ctCo), slCo⟩) (cCo : PySem.W.codeIn K cdCo "components_of" = true) (kCo : PySem.W.keepIn K (.ref fCo) = true)
    (aCi : PySem.W.nsIn K mainGlobals "_components_in" = some (some (.ref fCi))) (lCi : K.lookup fCi = some ⟨ocCi, odCi, .func (PySem.W.fnOf "_components_in" "_components_in" (defArgs sCompsIn) (defBody sCompsIn) (defScope sCompsIn) .none kVCi dcCi pmCi anCi cdCi ctCi), slCi⟩) (cCi : PySem.W.codeIn K cdCi "_components_in" = true) (kCi : PySem.W.keepIn K (.ref fCi) = true)
    (aWf : PySem.W.nsIn K mainGlobals "first_world" = some (some (.ref fWf))) (lWf : K.lookup fWf = some ⟨ocWf, odWf, .func (PySem.W.fnOf "first_world" "first_world" (defArgs sFirstW) (defBody sFirstW) (defScope sFirstW) .none kVWf dcWf pmWf anWf cdWf ctWf), slWf⟩) (cWf : PySem.W.codeIn K cdWf "first_world" = true) (kWf : PySem.W.keepIn K (.ref fWf) = true)
    (aWs : PySem.W.nsIn K mainGlobals "settle" = some (some (.ref fWs))) (lWs : K.lookup fWs = some ⟨ocWs, odWs, .func (PySem.W.fnOf "settle" "settle" (defArgs sSettle) (defBody sSettle) (defScope sSettle) .none kVWs dcWs pmWs anWs cdWs ctWs), slWs⟩) (cWs : PySem.W.codeIn K cdWs "settle" = true) (kWs : PySem.W.keepIn K (.ref fWs) = true)
    (aWp : PySem.W.nsIn K mainGlobals "page_of" = some (some (.ref fWp))) (lWp : K.lookup fWp = some ⟨ocWp, odWp, .func (PySem.W.fnOf "page_of" "page_of" (defArgs sPageOf) (defBody sPageOf) (defScope sPageOf) .none kVWp dcWp pmWp anWp cdWp ctWp), slWp⟩) (cWp : PySem.W.codeIn K cdWp "page_of" = true) (kWp : PySem.W.keepIn K (.ref fWp) = true)
    (aWtx : PySem.W.nsIn K mainGlobals "_part_text" = some (some (.ref fWtx))) (lWtx : K.lookup fWtx = some ⟨ocWtx, odWtx, .func (PySem.W.fnOf "_part_text" "_part_text" (defArgs sPText) (defBody sPText) (defScope sPText) .none kVWtx dcWtx pmWtx anWtx cdWtx ctWtx), slWtx⟩) (cWtx : PySem.W.codeIn K cdWtx "_part_text" = true) (kWtx : PySem.W.keepIn K (.ref fWtx) = true)
    (aC : PySem.W.nsIn K mainGlobals "_law_cell" = some (some (.ref fC))) (lC : K.lookup fC = some ⟨ocC, odC, .func (PySem.W.fnOf "_law_cell" "_law_cell" (defArgs sCell) (defBody sCell) (defScope sCell) .none kVC dcC pmC anC cdC ctC), slC⟩) (cC : PySem.W.codeIn K cdC "_law_cell" = true) (kC : PySem.W.keepIn K (.ref fC) = true)
    (aD : PySem.W.nsIn K mainGlobals "_law_digits" = some (some (.ref fD))) (lD : K.lookup fD = some ⟨ocD, odD, .func (PySem.W.fnOf "_law_digits" "_law_digits" (defArgs sDigits) (defBody sDigits) (defScope sDigits) .none kVD dcD pmD anD cdD ctD), slD⟩) (cD : PySem.W.codeIn K cdD "_law_digits" = true) (kD : PySem.W.keepIn K (.ref fD) = true)
    (aR : PySem.W.nsIn K mainGlobals "_law_draw" = some (some (.ref fR))) (lR : K.lookup fR = some ⟨ocR, odR, .func (PySem.W.fnOf "_law_draw" "_law_draw" (defArgs sDraw) (defBody sDraw) (defScope sDraw) .none kVR dcR pmR anR cdR ctR), slR⟩) (cR : PySem.W.codeIn K cdR "_law_draw" = true) (kR : PySem.W.keepIn K (.ref fR) = true)
    (aS : PySem.W.nsIn K mainGlobals "_law_same" = some (some (.ref fS))) (lS : K.lookup fS = some ⟨ocS, odS, .func (PySem.W.fnOf "_law_same" "_law_same" (defArgs sSame) (defBody sSame) (defScope sSame) .none kVS dcS pmS anS cdS ctS), slS⟩) (cS : PySem.W.codeIn K cdS "_law_same" = true) (kS : PySem.W.keepIn K (.ref fS) = true)
    (aE : PySem.W.nsIn K mainGlobals "_law_expr" = some (some (.ref fE))) (lE : K.lookup fE = some ⟨ocE, odE, .func (PySem.W.fnOf "_law_expr" "_law_expr" (defArgs sExpr) (defBody sExpr) (defScope sExpr) .none kVE dcE pmE anE cdE ctE), slE⟩) (cE : PySem.W.codeIn K cdE "_law_expr" = true) (kE : PySem.W.keepIn K (.ref fE) = true)
    (aK : PySem.W.nsIn K mainGlobals "_law_key" = some (some (.ref fK))) (lK : K.lookup fK = some ⟨ocK, odK, .func (PySem.W.fnOf "_law_key" "_law_key" (defArgs sKey) (defBody sKey) (defScope sKey) .none kVK dcK pmK anK cdK ctK), slK⟩) (cK : PySem.W.codeIn K cdK "_law_key" = true) (kK : PySem.W.keepIn K (.ref fK) = true)
    (aT : PySem.W.nsIn K mainGlobals "_law_template" = some (some (.ref fT))) (lT : K.lookup fT = some ⟨ocT, odT, .func (PySem.W.fnOf "_law_template" "_law_template" (defArgs sTemplate) (defBody sTemplate) (defScope sTemplate) .none kVT dcT pmT anT cdT ctT), slT⟩) (cT : PySem.W.codeIn K cdT "_law_template" = true) (kT : PySem.W.keepIn K (.ref fT) = true)
    (aN : PySem.W.nsIn K mainGlobals "_law_contents" = some (some (.ref fN))) (lN : K.lookup fN = some ⟨ocN, odN, .func (PySem.W.fnOf "_law_contents" "_law_contents" (defArgs sContents) (defBody sContents) (defScope sContents) .none kVN dcN pmN anN cdN ctN), slN⟩) (cN : PySem.W.codeIn K cdN "_law_contents" = true) (kN : PySem.W.keepIn K (.ref fN) = true)
    (aA : PySem.W.nsIn K mainGlobals "_law_actions" = some (some (.ref fA))) (lA : K.lookup fA = some ⟨ocA, odA, .func (PySem.W.fnOf "_law_actions" "_law_actions" (defArgs sActions) (defBody sActions) (defScope sActions) .none kVA dcA pmA anA cdA ctA), slA⟩) (cA : PySem.W.codeIn K cdA "_law_actions" = true) (kA : PySem.W.keepIn K (.ref fA) = true)
    (aP : PySem.W.nsIn K mainGlobals "_law_program" = some (some (.ref fP))) (lP : K.lookup fP = some ⟨ocP, odP, .func (PySem.W.fnOf "_law_program" "_law_program" (defArgs sProgram) (defBody sProgram) (defScope sProgram) .none kVP dcP pmP anP cdP ctP), slP⟩) (cP : PySem.W.codeIn K cdP "_law_program" = true) (kP : PySem.W.keepIn K (.ref fP) = true)
    (aB : PySem.W.nsIn K mainGlobals "_law_box" = some (some (.ref fB))) (lB : K.lookup fB = some ⟨ocB, odB, .func (PySem.W.fnOf "_law_box" "_law_box" (defArgs sBox) (defBody sBox) (defScope sBox) .none kVB dcB pmB anB cdB ctB), slB⟩) (cB : PySem.W.codeIn K cdB "_law_box" = true) (kB : PySem.W.keepIn K (.ref fB) = true)
    (aLv : PySem.W.nsIn K mainGlobals "_law_value" = some (some (.ref fLv))) (lLv : K.lookup fLv = some ⟨ocLv, odLv, .func (PySem.W.fnOf "_law_value" "_law_value" (defArgs sLawValue) (defBody sLawValue) (defScope sLawValue) .none kVLv dcLv pmLv anLv cdLv ctLv), slLv⟩) (cLv : PySem.W.codeIn K cdLv "_law_value" = true) (kLv : PySem.W.keepIn K (.ref fLv) = true)
    (aLl : PySem.W.nsIn K mainGlobals "_law_lay" = some (some (.ref fLl))) (lLl : K.lookup fLl = some ⟨ocLl, odLl, .func (PySem.W.fnOf "_law_lay" "_law_lay" (defArgs sLawLay) (defBody sLawLay) (defScope sLawLay) .none kVLl dcLl pmLl anLl cdLl ctLl), slLl⟩) (cLl : PySem.W.codeIn K cdLl "_law_lay" = true) (kLl : PySem.W.keepIn K (.ref fLl) = true)
    (aLf : PySem.W.nsIn K mainGlobals "_law_fill" = some (some (.ref fLf))) (lLf : K.lookup fLf = some ⟨ocLf, odLf, .func (PySem.W.fnOf "_law_fill" "_law_fill" (defArgs sLawFill) (defBody sLawFill) (defScope sLawFill) .none kVLf dcLf pmLf anLf cdLf ctLf), slLf⟩) (cLf : PySem.W.codeIn K cdLf "_law_fill" = true) (kLf : PySem.W.keepIn K (.ref fLf) = true)
    (aLc : PySem.W.nsIn K mainGlobals "_law_child" = some (some (.ref fLc))) (lLc : K.lookup fLc = some ⟨ocLc, odLc, .func (PySem.W.fnOf "_law_child" "_law_child" (defArgs sLawChild) (defBody sLawChild) (defScope sLawChild) .none kVLc dcLc pmLc anLc cdLc ctLc), slLc⟩) (cLc : PySem.W.codeIn K cdLc "_law_child" = true) (kLc : PySem.W.keepIn K (.ref fLc) = true)
    (aLp : PySem.W.nsIn K mainGlobals "_law_people" = some (some (.ref fLp))) (lLp : K.lookup fLp = some ⟨ocLp, odLp, .func (PySem.W.fnOf "_law_people" "_law_people" (defArgs sPeople) (defBody sPeople) (defScope sPeople) .none kVLp dcLp pmLp anLp cdLp ctLp), slLp⟩) (cLp : PySem.W.codeIn K cdLp "_law_people" = true) (kLp : PySem.W.keepIn K (.ref fLp) = true)
    (aLa : PySem.W.nsIn K mainGlobals "_law_cells_at" = some (some (.ref fLa))) (lLa : K.lookup fLa = some ⟨ocLa, odLa, .func (PySem.W.fnOf "_law_cells_at" "_law_cells_at" (defArgs sLawCells) (defBody sLawCells) (defScope sLawCells) .none kVLa dcLa pmLa anLa cdLa ctLa), slLa⟩) (cLa : PySem.W.codeIn K cdLa "_law_cells_at" = true) (kLa : PySem.W.keepIn K (.ref fLa) = true)
    (aLs : PySem.W.nsIn K mainGlobals "_law_settle" = some (some (.ref fLs))) (lLs : K.lookup fLs = some ⟨ocLs, odLs, .func (PySem.W.fnOf "_law_settle" "_law_settle" (defArgs sLawSettle) (defBody sLawSettle) (defScope sLawSettle) .none kVLs dcLs pmLs anLs cdLs ctLs), slLs⟩) (cLs : PySem.W.codeIn K cdLs "_law_settle" = true) (kLs : PySem.W.keepIn K (.ref fLs) = true)
    (aLi : PySem.W.nsIn K mainGlobals "_law_first" = some (some (.ref fLi))) (lLi : K.lookup fLi = some ⟨ocLi, odLi, .func (PySem.W.fnOf "_law_first" "_law_first" (defArgs sLawFirst) (defBody sLawFirst) (defScope sLawFirst) .none kVLi dcLi pmLi anLi cdLi ctLi), slLi⟩) (cLi : PySem.W.codeIn K cdLi "_law_first" = true) (kLi : PySem.W.keepIn K (.ref fLi) = true)
    (aLnu : PySem.W.nsIn K mainGlobals "_law_numbers" = some (some (.ref fLnu))) (lLnu : K.lookup fLnu = some ⟨ocLnu, odLnu, .func (PySem.W.fnOf "_law_numbers" "_law_numbers" (defArgs sLNums) (defBody sLNums) (defScope sLNums) .none kVLnu dcLnu pmLnu anLnu cdLnu ctLnu), slLnu⟩) (cLnu : PySem.W.codeIn K cdLnu "_law_numbers" = true) (kLnu : PySem.W.keepIn K (.ref fLnu) = true)
    (aLnm : PySem.W.nsIn K mainGlobals "_law_name" = some (some (.ref fLnm))) (lLnm : K.lookup fLnm = some ⟨ocLnm, odLnm, .func (PySem.W.fnOf "_law_name" "_law_name" (defArgs sLName) (defBody sLName) (defScope sLName) .none kVLnm dcLnm pmLnm anLnm cdLnm ctLnm), slLnm⟩) (cLnm : PySem.W.codeIn K cdLnm "_law_name" = true) (kLnm : PySem.W.keepIn K (.ref fLnm) = true)
    (aLwr : PySem.W.nsIn K mainGlobals "_law_write" = some (some (.ref fLwr))) (lLwr : K.lookup fLwr = some ⟨ocLwr, odLwr, .func (PySem.W.fnOf "_law_write" "_law_write" (defArgs sLWrite) (defBody sLWrite) (defScope sLWrite) .none kVLwr dcLwr pmLwr anLwr cdLwr ctLwr), slLwr⟩) (cLwr : PySem.W.codeIn K cdLwr "_law_write" = true) (kLwr : PySem.W.keepIn K (.ref fLwr) = true)
    (aLpg : PySem.W.nsIn K mainGlobals "_law_page_text" = some (some (.ref fLpg))) (lLpg : K.lookup fLpg = some ⟨ocLpg, odLpg, .func (PySem.W.fnOf "_law_page_text" "_law_page_text" (defArgs sLPage) (defBody sLPage) (defScope sLPage) .none kVLpg dcLpg pmLpg anLpg cdLpg ctLpg), slLpg⟩) (cLpg : PySem.W.codeIn K cdLpg "_law_page_text" = true) (kLpg : PySem.W.keepIn K (.ref fLpg) = true)
    (aLev : PySem.W.nsIn K mainGlobals "_law_every" = some (some (.ref fLev))) (lLev : K.lookup fLev = some ⟨ocLev, odLev, .func (PySem.W.fnOf "_law_every" "_law_every" (defArgs sLEvery) (defBody sLEvery) (defScope sLEvery) .none kVLev dcLev pmLev anLev cdLev ctLev), slLev⟩) (cLev : PySem.W.codeIn K cdLev "_law_every" = true) (kLev : PySem.W.keepIn K (.ref fLev) = true)
    (aLpt : PySem.W.nsIn K mainGlobals "_law_part_text" = some (some (.ref fLpt))) (lLpt : K.lookup fLpt = some ⟨ocLpt, odLpt, .func (PySem.W.fnOf "_law_part_text" "_law_part_text" (defArgs sLPart) (defBody sLPart) (defScope sLPart) .none kVLpt dcLpt pmLpt anLpt cdLpt ctLpt), slLpt⟩) (cLpt : PySem.W.codeIn K cdLpt "_law_part_text" = true) (kLpt : PySem.W.keepIn K (.ref fLpt) = true)
    (aw : PySem.W.nsIn K mainGlobals "law" = some (some (.ref fw))) (lw : K.lookup fw = some ⟨ocw, odw, .func (PySem.W.fnOf "law" "law" (defArgs sLaw) (defBody sLaw) (defScope sLaw) .none kVw dcw pmw anw cdw ctw), slw⟩) (cw : PySem.W.codeIn K cdw "law" = true) (kw : PySem.W.keepIn K (.ref fw) = true)
    (aSv0 : PySem.W.findIn K (.ref CSv) "__init__" = some (some (.ref fSv0))) (iSv0 : PySem.W.isFn K (.ref fSv0) = true) (lSv0 : K.lookup fSv0 = some ⟨ocSv0, odSv0, .func (PySem.W.fnOf "__init__" "Server.__init__" (defArgs sSInit) (defBody sSInit) (defScope sSInit) .none kVSv0 dcSv0 pmSv0 anSv0 cdSv0 ctSv0), slSv0⟩) (cSv0 : PySem.W.codeIn K cdSv0 "Server.__init__" = true) (kSv0 : PySem.W.keepIn K (.ref fSv0) = true)
    (aSrs : PySem.W.findIn K (.ref CSv) "resolve" = some (some (.ref fSrs))) (iSrs : PySem.W.isFn K (.ref fSrs) = true) (lSrs : K.lookup fSrs = some ⟨ocSrs, odSrs, .func (PySem.W.fnOf "resolve" "Server.resolve" (defArgs sResolve) (defBody sResolve) (defScope sResolve) .none kVSrs dcSrs pmSrs anSrs cdSrs ctSrs), slSrs⟩) (cSrs : PySem.W.codeIn K cdSrs "Server.resolve" = true) (kSrs : PySem.W.keepIn K (.ref fSrs) = true)
    (aSrn : PySem.W.findIn K (.ref CSv) "render" = some (some (.ref fSrn))) (iSrn : PySem.W.isFn K (.ref fSrn) = true) (lSrn : K.lookup fSrn = some ⟨ocSrn, odSrn, .func (PySem.W.fnOf "render" "Server.render" (defArgs sRender) (defBody sRender) (defScope sRender) .none kVSrn dcSrn pmSrn anSrn cdSrn ctSrn), slSrn⟩) (cSrn : PySem.W.codeIn K cdSrn "Server.render" = true) (kSrn : PySem.W.keepIn K (.ref fSrn) = true)
    (aSwa : PySem.W.findIn K (.ref CSv) "was_rendered" = some (some (.ref fSwa))) (iSwa : PySem.W.isFn K (.ref fSwa) = true) (lSwa : K.lookup fSwa = some ⟨ocSwa, odSwa, .func (PySem.W.fnOf "was_rendered" "Server.was_rendered" (defArgs sWas) (defBody sWas) (defScope sWas) .none kVSwa dcSwa pmSwa anSwa cdSwa ctSwa), slSwa⟩) (cSwa : PySem.W.codeIn K cdSwa "Server.was_rendered" = true) (kSwa : PySem.W.keepIn K (.ref fSwa) = true)
    (aSsd : PySem.W.findIn K (.ref CSv) "send" = some (some (.ref fSsd))) (iSsd : PySem.W.isFn K (.ref fSsd) = true) (lSsd : K.lookup fSsd = some ⟨ocSsd, odSsd, .func (PySem.W.fnOf "send" "Server.send" (defArgs sSend) (defBody sSend) (defScope sSend) .none kVSsd dcSsd pmSsd anSsd cdSsd ctSsd), slSsd⟩) (cSsd : PySem.W.codeIn K cdSsd "Server.send" = true) (kSsd : PySem.W.keepIn K (.ref fSsd) = true)
    (aCSv : PySem.W.nsIn K mainGlobals "Server" = some (some (.ref CSv))) (pgSv : PySem.W.plainGet K CSv Str.empty = true) (hdSv : PySem.W.hasDictIn K CSv = true) (poSv : PySem.W.plainOver K CSv = true) (saSv : PySem.W.findIn K (.ref CSv) "__setattr__" = some (some (.builtin "object.__setattr__"))) (mkSv : PySem.W.makesIn K CSv = true) (kCSv : PySem.W.keepIn K (.ref CSv) = true)
    (nSv_program : PySem.W.findIn K (.ref CSv) "program" = some none)
    (nSv_sent : PySem.W.findIn K (.ref CSv) "sent" = some none)
    (nSv_ready : PySem.W.findIn K (.ref CSv) "ready" = some none)
    (z_len : PySem.W.nsIn K mainGlobals "len" = some none)
    (z_range : PySem.W.nsIn K mainGlobals "range" = some none)
    (z_int : PySem.W.nsIn K mainGlobals "int" = some none)
    (z_isinstance : PySem.W.nsIn K mainGlobals "isinstance" = some none)
    (z_tuple : PySem.W.nsIn K mainGlobals "tuple" = some none)
    (z_bool : PySem.W.nsIn K mainGlobals "bool" = some none)
    (z_str : PySem.W.nsIn K mainGlobals "str" = some none)
    (z_list : PySem.W.nsIn K mainGlobals "list" = some none)
    (z_max : PySem.W.nsIn K mainGlobals "max" = some none)
    (z_min : PySem.W.nsIn K mainGlobals "min" = some none)
    (z_enumerate : PySem.W.nsIn K mainGlobals "enumerate" = some none)
    (z_set : PySem.W.nsIn K mainGlobals "set" = some none)
    (z_sorted : PySem.W.nsIn K mainGlobals "sorted" = some none)
    (y_VALUES : PySem.W.nsIn K mainGlobals "VALUES" = some (some (.int 1000 tv)))
    (y_REPEATS : PySem.W.nsIn K mainGlobals "REPEATS" = some (some (.int 6 tR))) :
    ∃ fd : FuncData, (∀ (s : Shared) (v : Value), BindsTo s fd ⟨[v], []⟩ [("script", v)]) ∧ ∀ base : Heap, K.In base → base.Ns mainGlobals mg → FnOk l.prog w K mg base CX0 84 fa fd ["script"] (spLawY K) := by
  have e := hfa.symm.trans (PySem.W.mg_of X G aw)
  cases e
  have FWpg := fun_mk (st := sWPage) lWpg cWpg kWpg
  have mWpg := PySem.W.mg_of X G aWpg
  have bWpg := FWpg.binds (ps := ["page"]) fun _ _ _ _ _ _ us hl => match us, hl with | [_], _ => rfl
  have FWpt := fun_mk (st := sWPart) lWpt cWpt kWpt
  have mWpt := PySem.W.mg_of X G aWpt
  have bWpt := FWpt.binds (ps := ["k", "reads", "nodes"]) fun _ _ _ _ _ _ us hl => match us, hl with | [_, _, _], _ => rfl
  have FWns := fun_mk (st := sWNodes) lWns cWns kWns
  have mWns := PySem.W.mg_of X G aWns
  have bWns := FWns.binds (ps := ["nodes"]) fun _ _ _ _ _ _ us hl => match us, hl with | [_], _ => rfl
  have FWnd := fun_mk (st := sWNode) lWnd cWnd kWnd
  have mWnd := PySem.W.mg_of X G aWnd
  have bWnd := FWnd.binds (ps := ["node"]) fun _ _ _ _ _ _ us hl => match us, hl with | [_], _ => rfl
  have FWch := fun_mk (st := sWChild) lWch cWch kWch
  have mWch := PySem.W.mg_of X G aWch
  have bWch := FWch.binds (ps := ["name", "component", "props", "reads", "inner"]) fun _ _ _ _ _ _ us hl => match us, hl with | [_, _, _, _, _], _ => rfl
  have FWwd := fun_mk (st := sWords) lWwd cWwd kWwd
  have mWwd := PySem.W.mg_of X G aWwd
  have bWwd := FWwd.binds (ps := ["words"]) fun _ _ _ _ _ _ us hl => match us, hl with | [_], _ => rfl
  have FWnm := fun_mk (st := sWName) lWnm cWnm kWnm
  have mWnm := PySem.W.mg_of X G aWnm
  have bWnm := FWnm.binds (ps := ["name"]) fun _ _ _ _ _ _ us hl => match us, hl with | [_], _ => rfl
  have FWac := fun_mk (st := sWAct) lWac cWac kWac
  have mWac := PySem.W.mg_of X G aWac
  have bWac := FWac.binds (ps := ["action"]) fun _ _ _ _ _ _ us hl => match us, hl with | [_], _ => rfl
  have FWnu := fun_mk (st := sNums) lWnu cWnu kWnu
  have mWnu := PySem.W.mg_of X G aWnu
  have bWnu := FWnu.binds (ps := ["numbers"]) fun _ _ _ _ _ _ us hl => match us, hl with | [_], _ => rfl
  have FV := fun_mk (st := sValue) lV cV kV
  have mV := PySem.W.mg_of X G aV
  have bV := FV.binds (ps := ["expression", "scope", "looked"]) fun _ _ _ _ _ _ us hl => match us, hl with | [_, _, _], _ => rfl
  have FH := fun_mk (st := sThere) lH cH kH
  have mH := PySem.W.mg_of X G aH
  have bH := FH.binds (ps := ["row", "at"]) fun _ _ _ _ _ _ us hl => match us, hl with | [_, _], _ => rfl
  have FI := fun_mk (st := sItem) lI cI kI
  have mI := PySem.W.mg_of X G aI
  have bI := FI.binds (ps := ["row", "at"]) fun _ _ _ _ _ _ us hl => match us, hl with | [_, _], _ => rfl
  have FDo := fun_mk (st := sLayOut) lDo cDo kDo
  have mDo := PySem.W.mg_of X G aDo
  have bDo := FDo.binds (ps := ["contents", "scope", "looked"]) fun _ _ _ _ _ _ us hl => match us, hl with | [_, _, _], _ => rfl
  have FDd := fun_mk (st := sDis) lDd cDd kDd
  have mDd := PySem.W.mg_of X G aDd
  have bDd := FDd.binds (ps := ["contents", "before", "repeats", "scope", "looked"]) fun _ _ _ _ _ _ us hl => match us, hl with | [_, _, _, _, _], _ => rfl
  have FDw := fun_mk (st := sWished) lDw cDw kDw
  have mDw := PySem.W.mg_of X G aDw
  have bDw := FDw.binds (ps := ["template", "other", "scope", "looked"]) fun _ _ _ _ _ _ us hl => match us, hl with | [_, _, _, _], _ => rfl
  have FDk := fun_mk (st := sByKey) lDk cDk kDk
  have mDk := PySem.W.mg_of X G aDk
  have bDk := FDk.binds (ps := ["key", "other", "scope", "looked"]) fun _ _ _ _ _ _ us hl => match us, hl with | [_, _, _, _], _ => rfl
  have FMg := fun_mk (st := sMakePage) lMg cMg kMg
  have mMg := PySem.W.mg_of X G aMg
  have bMg := FMg.binds (ps := ["program", "store", "cells", "present"]) fun _ _ _ _ _ _ us hl => match us, hl with | [_, _, _, _], _ => rfl
  have FMc := fun_mk (st := sMakeComp) lMc cMc kMc
  have mMc := PySem.W.mg_of X G aMc
  have bMc := FMc.binds (ps := ["given", "component", "path", "props"]) fun _ _ _ _ _ _ us hl => match us, hl with | [_, _, _, _], _ => rfl
  have FMn := fun_mk (st := sMakeNodes) lMn cMn kMn
  have mMn := PySem.W.mg_of X G aMn
  have bMn := FMn.binds (ps := ["given", "contents", "owner", "around", "scope", "looked"]) fun _ _ _ _ _ _ us hl => match us, hl with | [_, _, _, _, _, _], _ => rfl
  have FMo := fun_mk (st := sMakeNode) lMo cMo kMo
  have mMo := PySem.W.mg_of X G aMo
  have bMo := FMo.binds (ps := ["given", "template", "owner", "path", "scope", "looked"]) fun _ _ _ _ _ _ us hl => match us, hl with | [_, _, _, _, _, _], _ => rfl
  have FMh := fun_mk (st := sMakeChild) lMh cMh kMh
  have mMh := PySem.W.mg_of X G aMh
  have bMh := FMh.binds (ps := ["given", "component", "path", "props"]) fun _ _ _ _ _ _ us hl => match us, hl with | [_, _, _, _], _ => rfl
  have FMp := fun_mk (st := sMakePart) lMp cMp kMp
  have mMp := PySem.W.mg_of X G aMp
  have bMp := FMp.binds (ps := ["given", "part", "path"]) fun _ _ _ _ _ _ us hl => match us, hl with | [_, _, _], _ => rfl
  have FCo := fun_mk (st := sCompsOf) lCo cCo kCo
  have mCo := PySem.W.mg_of X G aCo
  have bCo := FCo.binds (ps := ["page"]) fun _ _ _ _ _ _ us hl => match us, hl with | [_], _ => rfl
  have FCi := fun_mk (st := sCompsIn) lCi cCi kCi
  have mCi := PySem.W.mg_of X G aCi
  have bCi := FCi.binds (ps := ["nodes"]) fun _ _ _ _ _ _ us hl => match us, hl with | [_], _ => rfl
  have FWf := fun_mk (st := sFirstW) lWf cWf kWf
  have mWf := PySem.W.mg_of X G aWf
  have bWf := FWf.binds (ps := ["program", "present"]) fun _ _ _ _ _ _ us hl => match us, hl with | [_, _], _ => rfl
  have FWs := fun_mk (st := sSettle) lWs cWs kWs
  have mWs := PySem.W.mg_of X G aWs
  have bWs := FWs.binds (ps := ["program", "store", "cells", "present"]) fun _ _ _ _ _ _ us hl => match us, hl with | [_, _, _, _], _ => rfl
  have FWp := fun_mk (st := sPageOf) lWp cWp kWp
  have mWp := PySem.W.mg_of X G aWp
  have bWp := FWp.binds (ps := ["program", "world"]) fun _ _ _ _ _ _ us hl => match us, hl with | [_, _], _ => rfl
  have FWtx := fun_mk (st := sPText) lWtx cWtx kWtx
  have mWtx := PySem.W.mg_of X G aWtx
  have bWtx := FWtx.binds (ps := ["nodes", "part"]) fun _ _ _ _ _ _ us hl => match us, hl with | [_, _], _ => rfl
  have FC := fun_mk (st := sCell) lC cC kC
  have mC := PySem.W.mg_of X G aC
  have bC := FC.binds (ps := ["script", "k"]) fun _ _ _ _ _ _ us hl => match us, hl with | [_, _], _ => rfl
  have FD := fun_mk (st := sDigits) lD cD kD
  have mD := PySem.W.mg_of X G aD
  have bD := FD.binds (ps := ["script", "first", "last"]) fun _ _ _ _ _ _ us hl => match us, hl with | [_, _, _], _ => rfl
  have FR := fun_mk (st := sDraw) lR cR kR
  have mR := PySem.W.mg_of X G aR
  have bR := FR.binds (ps := ["box", "many"]) fun _ _ _ _ _ _ us hl => match us, hl with | [_, _], _ => rfl
  have FS := fun_mk (st := sSame) lS cS kS
  have mS := PySem.W.mg_of X G aS
  have bS := FS.binds (ps := ["actual", "expected"]) fun _ _ _ _ _ _ us hl => match us, hl with | [_, _], _ => rfl
  have FE := fun_mk (st := sExpr) lE cE kE
  have mE := PySem.W.mg_of X G aE
  have bE := FE.binds (ps := ["box", "depth"]) fun _ _ _ _ _ _ us hl => match us, hl with | [_, _], _ => rfl
  have FK := fun_mk (st := sKey) lK cK kK
  have mK := PySem.W.mg_of X G aK
  have bK := FK.binds (ps := ["box"]) fun _ _ _ _ _ _ us hl => match us, hl with | [_], _ => rfl
  have FT := fun_mk (st := sTemplate) lT cT kT
  have mT := PySem.W.mg_of X G aT
  have bT := FT.binds (ps := ["box", "own", "level", "last", "free"]) fun _ _ _ _ _ _ us hl => match us, hl with | [_, _, _, _, _], _ => rfl
  have FN := fun_mk (st := sContents) lN cN kN
  have mN := PySem.W.mg_of X G aN
  have bN := FN.binds (ps := ["box", "own", "level", "last", "free"]) fun _ _ _ _ _ _ us hl => match us, hl with | [_, _, _, _, _], _ => rfl
  have FA := fun_mk (st := sActions) lA cA kA
  have mA := PySem.W.mg_of X G aA
  have bA := FA.binds (ps := ["box"]) fun _ _ _ _ _ _ us hl => match us, hl with | [_], _ => rfl
  have FP := fun_mk (st := sProgram) lP cP kP
  have mP := PySem.W.mg_of X G aP
  have bP := FP.binds (ps := ["box"]) fun _ _ _ _ _ _ us hl => match us, hl with | [_], _ => rfl
  have FB := fun_mk (st := sBox) lB cB kB
  have mB := PySem.W.mg_of X G aB
  have bB := FB.binds (ps := ["script", "first", "last"]) fun _ _ _ _ _ _ us hl => match us, hl with | [_, _, _], _ => rfl
  have FLv := fun_mk (st := sLawValue) lLv cLv kLv
  have mLv := PySem.W.mg_of X G aLv
  have bLv := FLv.binds (ps := ["e", "scope", "looked"]) fun _ _ _ _ _ _ us hl => match us, hl with | [_, _, _], _ => rfl
  have FLl := fun_mk (st := sLawLay) lLl cLl kLl
  have mLl := PySem.W.mg_of X G aLl
  have bLl := FLl.binds (ps := ["contents", "scope", "looked", "address", "repeats", "names"]) fun _ _ _ _ _ _ us hl => match us, hl with | [_, _, _, _, _, _], _ => rfl
  have FLf := fun_mk (st := sLawFill) lLf cLf kLf
  have mLf := PySem.W.mg_of X G aLf
  have bLf := FLf.binds (ps := ["about", "owner", "scope", "looked", "contents", "path"]) fun _ _ _ _ _ _ us hl => match us, hl with | [_, _, _, _, _, _], _ => rfl
  have FLc := fun_mk (st := sLawChild) lLc cLc kLc
  have mLc := PySem.W.mg_of X G aLc
  have bLc := FLc.binds (ps := ["about", "path", "number", "props"]) fun _ _ _ _ _ _ us hl => match us, hl with | [_, _, _, _], _ => rfl
  have FLp := fun_mk (st := sPeople) lLp cLp kLp
  have mLp := PySem.W.mg_of X G aLp
  have bLp := FLp.binds (ps := ["nodes"]) fun _ _ _ _ _ _ us hl => match us, hl with | [_], _ => rfl
  have FLa := fun_mk (st := sLawCells) lLa cLa kLa
  have mLa := PySem.W.mg_of X G aLa
  have bLa := FLa.binds (ps := ["about", "path", "number"]) fun _ _ _ _ _ _ us hl => match us, hl with | [_, _, _], _ => rfl
  have FLs := fun_mk (st := sLawSettle) lLs cLs kLs
  have mLs := PySem.W.mg_of X G aLs
  have bLs := FLs.binds (ps := ["about"]) fun _ _ _ _ _ _ us hl => match us, hl with | [_], _ => rfl
  have FLi := fun_mk (st := sLawFirst) lLi cLi kLi
  have mLi := PySem.W.mg_of X G aLi
  have bLi := FLi.binds (ps := ["program", "present"]) fun _ _ _ _ _ _ us hl => match us, hl with | [_, _], _ => rfl
  have FLnu := fun_mk (st := sLNums) lLnu cLnu kLnu
  have mLnu := PySem.W.mg_of X G aLnu
  have bLnu := FLnu.binds (ps := ["row"]) fun _ _ _ _ _ _ us hl => match us, hl with | [_], _ => rfl
  have FLnm := fun_mk (st := sLName) lLnm cLnm kLnm
  have mLnm := PySem.W.mg_of X G aLnm
  have bLnm := FLnm.binds (ps := ["name"]) fun _ _ _ _ _ _ us hl => match us, hl with | [_], _ => rfl
  have FLwr := fun_mk (st := sLWrite) lLwr cLwr kLwr
  have mLwr := PySem.W.mg_of X G aLwr
  have bLwr := FLwr.binds (ps := ["nodes", "out"]) fun _ _ _ _ _ _ us hl => match us, hl with | [_, _], _ => rfl
  have FLpg := fun_mk (st := sLPage) lLpg cLpg kLpg
  have mLpg := PySem.W.mg_of X G aLpg
  have bLpg := FLpg.binds (ps := ["page"]) fun _ _ _ _ _ _ us hl => match us, hl with | [_], _ => rfl
  have FLev := fun_mk (st := sLEvery) lLev cLev kLev
  have mLev := PySem.W.mg_of X G aLev
  have bLev := FLev.binds (ps := ["nodes"]) fun _ _ _ _ _ _ us hl => match us, hl with | [_], _ => rfl
  have FLpt := fun_mk (st := sLPart) lLpt cLpt kLpt
  have mLpt := PySem.W.mg_of X G aLpt
  have bLpt := FLpt.binds (ps := ["program", "first", "k"]) fun _ _ _ _ _ _ us hl => match us, hl with | [_, _, _], _ => rfl
  have Fw := fun_mk (st := sLaw) lw cw kw
  have mw := PySem.W.mg_of X G aw
  have FSv0 := fun_mk (st := sSInit) lSv0 cSv0 kSv0
  have mtSv0 : Meth K CSv "__init__" fSv0 := ⟨aSv0, iSv0, kSv0⟩
  have MkSv0 : Mk K CSv fSv0 := ⟨mkSv, aSv0, iSv0, kCSv⟩
  have bSv0 := FSv0.binds (ps := ["self", "program"]) fun _ _ _ _ _ _ us hl => match us, hl with | [_, _], _ => rfl
  have FSrs := fun_mk (st := sResolve) lSrs cSrs kSrs
  have mtSrs : Meth K CSv "resolve" fSrs := ⟨aSrs, iSrs, kSrs⟩
  have bSrs := FSrs.binds (ps := ["self", "k"]) fun _ _ _ _ _ _ us hl => match us, hl with | [_, _], _ => rfl
  have FSrn := fun_mk (st := sRender) lSrn cSrn kSrn
  have mtSrn : Meth K CSv "render" fSrn := ⟨aSrn, iSrn, kSrn⟩
  have bSrn := FSrn.binds (ps := ["self"]) fun _ _ _ _ _ _ us hl => match us, hl with | [_], _ => rfl
  have FSwa := fun_mk (st := sWas) lSwa cSwa kSwa
  have mtSwa : Meth K CSv "was_rendered" fSwa := ⟨aSwa, iSwa, kSwa⟩
  have bSwa := FSwa.binds (ps := ["self"]) fun _ _ _ _ _ _ us hl => match us, hl with | [_], _ => rfl
  have FSsd := fun_mk (st := sSend) lSsd cSsd kSsd
  have mtSsd : Meth K CSv "send" fSsd := ⟨aSsd, iSsd, kSsd⟩
  have bSsd := FSsd.binds (ps := ["self", "text"]) fun _ _ _ _ _ _ us hl => match us, hl with | [_, _], _ => rfl
  have TCSv : Cls K CSv := ⟨pgSv, hdSv, poSv, saSv⟩
  have mServer := PySem.W.mg_of X G aCSv
  have m_len := PySem.W.mg_none_of X G z_len
  have m_range := PySem.W.mg_none_of X G z_range
  have m_int := PySem.W.mg_none_of X G z_int
  have m_isinstance := PySem.W.mg_none_of X G z_isinstance
  have m_tuple := PySem.W.mg_none_of X G z_tuple
  have m_bool := PySem.W.mg_none_of X G z_bool
  have m_str := PySem.W.mg_none_of X G z_str
  have m_list := PySem.W.mg_none_of X G z_list
  have m_max := PySem.W.mg_none_of X G z_max
  have m_min := PySem.W.mg_none_of X G z_min
  have m_enumerate := PySem.W.mg_none_of X G z_enumerate
  have m_set := PySem.W.mg_none_of X G z_set
  have m_sorted := PySem.W.mg_none_of X G z_sorted
  have c_VALUES := PySem.W.mg_of X G y_VALUES
  have c_REPEATS := PySem.W.mg_of X G y_REPEATS
  refine ⟨PySem.W.fnOf "law" "law" (defArgs sLaw) (defBody sLaw) (defScope sLaw) .none kVw dcw pmw anw cdw ctw, fun s v => .of_eq rfl, fun base _ _ => ?_⟩
  have gH := ok_there (P := l.prog) (w := w) (base := base) (k := 0) FH m_len
  have gI := ok_item (k := 1) FI gH bH kH mH
  have gV := all_value FV bV kV mV gI bI kI mI gH bH kH mH c_VALUES 4
  have gDk := ok_bykey (k := 6) FDk gV bV kV mV
  have gDw := ok_wished (k := 7) FDw gDk bDk kDk mDk
  have gDd := all_dis FDd bDd kDd mDd gV bV kV mV gDw bDw kDw mDw m_enumerate m_range c_REPEATS 4
  have gDo := ok_layout (k := 12) FDo gDd bDd kDd mDd m_tuple (by decide)
  have gC := ok_cell (P := l.prog) (w := w) (base := base) (k := 0) FC m_len
  have gD := ok_digits (k := 1) FD gC bC kC mC m_range m_int
  have gR := Pw.FnOk.weak (sp' := spDrawY) (ok_draw (P := l.prog) (w := w) (base := base) (k := 0) FR m_len m_int) fun _ _ _ _ h => draw_y h
  have gS := all_same (P := l.prog) (w := w) (base := base) FS bS kS mS m_isinstance m_tuple m_len m_range m_bool m_int m_str 40
  have gE := all_expr FE bE kE mE gR bR kR mR m_int 2
  have gK := ok_key (k := 3) FK gE bE kE mE (gR.mono (by decide)) bR kR mR
  have gN := (all_tpl FT FN gE bE kE mE gR bR kR mR gK bK kK mK bT kT mT bN kN mN m_int m_len m_range m_tuple 4).2
  have gA := ok_actions (k := 3) FA gE bE kE mE (gR.mono (by decide)) bR kR mR m_range m_tuple
  have gP := ok_program (k := 13) FP (gR.mono (by decide)) bR kR mR gN bN kN mN (gA.mono (by decide)) bA kA mA m_range m_tuple m_list m_len m_max
  have gB := ok_box (k := 2) FB gD bD kD mD
  have gLv := all_lawvalue (P := l.prog) (w := w) (base := base) FLv bLv kLv mLv m_int m_len 4
  have gLl := all_lawlay FLl bLl kLl mLl gLv bLv kLv mLv m_range m_len m_int 4
  have gfc := all_fc FLf FLc bLf kLf mLf bLc kLc mLc gLl bLl kLl mLl gLv bLv kLv mLv m_len m_min m_str m_tuple m_range 12
  have gmk := all_mkn FMn FMc FMh FMp FMo bMn kMn mMn bMc kMc mMc bMh kMh mMh bMp kMp mMp bMo kMo mMo (gDo.mono (by decide)) bDo kDo mDo (gV.mono (by decide)) bV kV mV m_tuple m_sorted m_set m_str 12
  have gMg := ok_mkpage (k := 74) FMg gmk.2 bMc kMc mMc
  have gCi := all_compsin (P := l.prog) (w := w) (base := base) FCi bCi kCi mCi 13
  have gCo := ok_compsof (k := 13) FCo gCi bCi kCi mCi m_tuple
  have gLp := all_people (P := l.prog) (w := w) (base := base) FLp bLp kLp mLp 14
  have gWs := ok_settle (k := 75) FWs gMg bMg kMg mMg (gCo.mono (by decide)) bCo kCo mCo m_tuple m_sorted m_set
  have gWf := ok_firstw (k := 76) FWf gWs bWs kWs mWs
  have gWp := ok_pageof (k := 75) FWp gMg bMg kMg mMg
  have gLa := ok_lawcells (P := l.prog) (w := w) (mg := mg) (base := base) (k := 0) FLa
  have gLs := ok_lawsettle (k := 33) FLs gfc.2 bLc kLc mLc (gLp.mono (by decide)) bLp kLp mLp (gLa.mono (by decide)) bLa kLa mLa m_tuple m_sorted
  have gLi := ok_lawfirst (k := 34) FLi gLs bLs kLs mLs m_tuple
  have gWnu := ok_nums (P := l.prog) (w := w) (mg := mg) (base := base) (k := 0) FWnu m_str
  have gWnm := ok_wname (k := 1) FWnm gWnu bWnu kWnu mWnu
  have gWac := ok_wact (P := l.prog) (w := w) (mg := mg) (base := base) (k := 0) FWac m_str
  have gWwd := ok_words (P := l.prog) (w := w) (mg := mg) (base := base) (k := 0) FWwd
  have gws := all_wns FWns FWnd FWch FWpt bWns kWns mWns bWnd kWnd mWnd bWch kWch mWch bWpt kWpt mWpt gWnu bWnu kWnu mWnu gWnm bWnm kWnm mWnm gWwd bWwd kWwd mWwd gWac bWac kWac mWac m_str
  have gWpg := ok_wpage (k := 56) FWpg ((gws 13).1.mono (by decide)) bWns kWns mWns (gWnu.mono (by decide)) bWnu kWnu mWnu
  have gSv0 := ok_sinit (P := l.prog) (w := w) (mg := mg) (base := base) FSv0 TCSv nSv_program nSv_sent nSv_ready
  have gSwa := ok_was (P := l.prog) (w := w) (mg := mg) (base := base) (k := 0) FSwa TCSv nSv_sent
  have gSsd := ok_send (P := l.prog) (w := w) (mg := mg) (base := base) (k := 0) FSsd TCSv nSv_sent
  have gWtx := all_ptext FWtx bWtx kWtx mWtx (fun n => (gws n).2) bWpt kWpt mWpt 13
  have gSrn := ok_render (k := 77) FSrn TCSv nSv_program nSv_sent nSv_ready (gSwa.mono (by decide)) bSwa mtSwa (gSsd.mono (by decide)) bSsd mtSsd gWf bWf kWf mWf (gWp.mono (by decide)) bWp kWp mWp (gWpg.mono (by decide)) bWpg kWpg mWpg
  have gSrs := ok_resolve (k := 77) FSrs TCSv nSv_program nSv_sent nSv_ready (gSwa.mono (by decide)) bSwa mtSwa (gSsd.mono (by decide)) bSsd mtSsd gWf bWf kWf mWf (gWp.mono (by decide)) bWp kWp mWp (gWtx.mono (by decide)) bWtx kWtx mWtx m_tuple m_sorted
  have gLnu := ok_lnums (P := l.prog) (w := w) (mg := mg) (base := base) (k := 0) FLnu m_str m_len
  have gLnm := ok_lname (k := 1) FLnm gLnu bLnu kLnu mLnu m_str
  have gLwr := all_lwrite FLwr bLwr kLwr mLwr gLnm bLnm kLnm mLnm gLnu bLnu kLnu mLnu m_str m_len 14
  have gLpg := ok_lpage (k := 17) FLpg gLwr bLwr kLwr mLwr (gLnu.mono (by decide)) bLnu kLnu mLnu
  have gLev := all_levery (P := l.prog) (w := w) (base := base) FLev bLev kLev mLev 14
  have gLpt := ok_lpart (k := 35) FLpt gLi bLi kLi mLi (gfc.2.mono (by decide)) bLc kLc mLc (gLev.mono (by decide)) bLev kLev mLev (gLwr.mono (by decide)) bLwr kLwr mLwr (gLnu.mono (by decide)) bLnu kLnu mLnu m_tuple m_range m_len m_str
  exact ok_law (k := 82) Fw (gB.mono (by decide)) bB kB mB (gP.mono (by decide)) bP kP mP (gR.mono (by decide)) bR kR mR (gS.mono (by decide)) bS kS mS (gLi.mono (by decide)) bLi kLi mLi (gfc.2.mono (by decide)) bLc kLc mLc (gMg.mono (by decide)) bMg kMg mMg (gWpg.mono (by decide)) bWpg kWpg mWpg ((gws 14).2.mono (by decide)) bWpt kWpt mWpt (gLpg.mono (by decide)) bLpg kLpg mLpg (gLev.mono (by decide)) bLev kLev mLev (gLpt.mono (by decide)) bLpt kLpt mLpt TCSv nSv_sent nSv_ready mServer MkSv0 (gSv0.mono (by decide)) bSv0 (gSrn.mono (by decide)) bSrn mtSrn (gSrs.mono (by decide)) bSrs mtSrs m_tuple m_range m_len m_sorted
theorem walk {l : PySem.W.OpenLaw} {q : Program} {loose : List Str} {XP : (Str → Option Value) → Heap → Prop} {YP : World → Heap → Prop} {d : DefRec} {K : Params → PySem.W.Frag} (hn : l.most = some 63) (hdf : d.params.defaults = [])
    (hY : ∀ (w : World) (h : Heap), YP w h → (K w.params).In h)
    (F : ∀ (w : World) (mg : Str → Option Value) (fa : Addr) (h : Heap), (K w.params).In h → h.Ns mainGlobals mg → mg d.name = some (.ref fa) →
      ∃ fd : FuncData, (∀ (s : Shared) (u : Value), BindsTo s fd ⟨[u], []⟩ [("script", u)]) ∧ ∀ base : Heap, (K w.params).In base → base.Ns mainGlobals mg → FnOk l.prog w (K w.params) mg base CX0 84 fa fd ["script"] (spLawY (K w.params))) :
    PySem.W.WalkO q loose XP YP l.row.toRowW d [] (fun f vs => PySem.call f vs) :=
  L2.walk_of (n := 63) (k := 84) (x := "script") (CX := fun _ => CX0) (sp := fun w => spLawY (K w.params)) hn (by decide) hdf ⟨rfl, by decide, by decide⟩ hY F (fun _ _ a ns hl _ hS => ⟨a, ns, rfl, hS, hl, fun _ => rfl⟩) fun _ _ _ _ _ z => z
end Pw
open PySem PySem.W PyProof.Rows
set_option maxRecDepth 100000 in
set_option maxHeartbeats 0 in
theorem PySem.Challenge.cw_pagewake_k30_pages_are_written_holds : PySem.Challenge.rw_pagewake_k30_pages_are_written.Holds := by
  w_on; o_law; k_head; (case hw => w_witness2)
  k_fill
  refine Pw.walk (l := PySem.Challenge.rw_pagewake_k30_pages_are_written) rfl rfl (fun w h Y => PySem.W.kIn_of Y) ?F
  case F =>
    intro w mg fa h KX G hmg
    refine' Pw.all_mk KX G hmg ?qaWpg ?qlWpg ?qcWpg ?qkWpg ?qaWpt ?qlWpt ?qcWpt ?qkWpt ?qaWns ?qlWns ?qcWns ?qkWns ?qaWnd ?qlWnd ?qcWnd ?qkWnd ?qaWch ?qlWch ?qcWch ?qkWch ?qaWwd ?qlWwd ?qcWwd ?qkWwd ?qaWnm ?qlWnm ?qcWnm ?qkWnm ?qaWac ?qlWac ?qcWac ?qkWac ?qaWnu ?qlWnu ?qcWnu ?qkWnu ?qaV ?qlV ?qcV ?qkV ?qaH ?qlH ?qcH ?qkH ?qaI ?qlI ?qcI ?qkI ?qaDo ?qlDo ?qcDo ?qkDo ?qaDd ?qlDd ?qcDd ?qkDd ?qaDw ?qlDw ?qcDw ?qkDw ?qaDk ?qlDk ?qcDk ?qkDk ?qaMg ?qlMg ?qcMg ?qkMg ?qaMc ?qlMc ?qcMc ?qkMc ?qaMn ?qlMn ?qcMn ?qkMn ?qaMo ?qlMo ?qcMo ?qkMo ?qaMh ?qlMh ?qcMh ?qkMh ?qaMp ?qlMp ?qcMp ?qkMp ?qaCo ?qlCo ?qcCo ?qkCo ?qaCi ?qlCi ?qcCi ?qkCi ?qaWf ?qlWf ?qcWf ?qkWf ?qaWs ?qlWs ?qcWs ?qkWs ?qaWp ?qlWp ?qcWp ?qkWp ?qaWtx ?qlWtx ?qcWtx ?qkWtx ?qaC ?qlC ?qcC ?qkC ?qaD ?qlD ?qcD ?qkD ?qaR ?qlR ?qcR ?qkR ?qaS ?qlS ?qcS ?qkS ?qaE ?qlE ?qcE ?qkE ?qaK ?qlK ?qcK ?qkK ?qaT ?qlT ?qcT ?qkT ?qaN ?qlN ?qcN ?qkN ?qaA ?qlA ?qcA ?qkA ?qaP ?qlP ?qcP ?qkP ?qaB ?qlB ?qcB ?qkB ?qaLv ?qlLv ?qcLv ?qkLv ?qaLl ?qlLl ?qcLl ?qkLl ?qaLf ?qlLf ?qcLf ?qkLf ?qaLc ?qlLc ?qcLc ?qkLc ?qaLp ?qlLp ?qcLp ?qkLp ?qaLa ?qlLa ?qcLa ?qkLa ?qaLs ?qlLs ?qcLs ?qkLs ?qaLi ?qlLi ?qcLi ?qkLi ?qaLnu ?qlLnu ?qcLnu ?qkLnu ?qaLnm ?qlLnm ?qcLnm ?qkLnm ?qaLwr ?qlLwr ?qcLwr ?qkLwr ?qaLpg ?qlLpg ?qcLpg ?qkLpg ?qaLev ?qlLev ?qcLev ?qkLev ?qaLpt ?qlLpt ?qcLpt ?qkLpt ?qaw ?qlw ?qcw ?qkw ?qaSv0 ?qiSv0 ?qlSv0 ?qcSv0 ?qkSv0 ?qaSrs ?qiSrs ?qlSrs ?qcSrs ?qkSrs ?qaSrn ?qiSrn ?qlSrn ?qcSrn ?qkSrn ?qaSwa ?qiSwa ?qlSwa ?qcSwa ?qkSwa ?qaSsd ?qiSsd ?qlSsd ?qcSsd ?qkSsd ?qaCSv ?qpgSv ?qhdSv ?qpoSv ?qsaSv ?qmkSv ?qkCSv ?qnSv_program ?qnSv_sent ?qnSv_ready ?qz_len ?qz_range ?qz_int ?qz_isinstance ?qz_tuple ?qz_bool ?qz_str ?qz_list ?qz_max ?qz_min ?qz_enumerate ?qz_set ?qz_sorted ?qy_VALUES ?qy_REPEATS
    (case qaCSv => k_is)
    (case qaWpg => k_is)
    (case qlWpg => k_is)
    (case qcWpg => k_is)
    (case qkWpg => k_is)
    (case qaWpt => k_is)
    (case qlWpt => k_is)
    (case qcWpt => k_is)
    (case qkWpt => k_is)
    (case qaWns => k_is)
    (case qlWns => k_is)
    (case qcWns => k_is)
    (case qkWns => k_is)
    (case qaWnd => k_is)
    (case qlWnd => k_is)
    (case qcWnd => k_is)
    (case qkWnd => k_is)
    (case qaWch => k_is)
    (case qlWch => k_is)
    (case qcWch => k_is)
    (case qkWch => k_is)
    (case qaWwd => k_is)
    (case qlWwd => k_is)
    (case qcWwd => k_is)
    (case qkWwd => k_is)
    (case qaWnm => k_is)
    (case qlWnm => k_is)
    (case qcWnm => k_is)
    (case qkWnm => k_is)
    (case qaWac => k_is)
    (case qlWac => k_is)
    (case qcWac => k_is)
    (case qkWac => k_is)
    (case qaWnu => k_is)
    (case qlWnu => k_is)
    (case qcWnu => k_is)
    (case qkWnu => k_is)
    (case qaV => k_is)
    (case qlV => k_is)
    (case qcV => k_is)
    (case qkV => k_is)
    (case qaH => k_is)
    (case qlH => k_is)
    (case qcH => k_is)
    (case qkH => k_is)
    (case qaI => k_is)
    (case qlI => k_is)
    (case qcI => k_is)
    (case qkI => k_is)
    (case qaDo => k_is)
    (case qlDo => k_is)
    (case qcDo => k_is)
    (case qkDo => k_is)
    (case qaDd => k_is)
    (case qlDd => k_is)
    (case qcDd => k_is)
    (case qkDd => k_is)
    (case qaDw => k_is)
    (case qlDw => k_is)
    (case qcDw => k_is)
    (case qkDw => k_is)
    (case qaDk => k_is)
    (case qlDk => k_is)
    (case qcDk => k_is)
    (case qkDk => k_is)
    (case qaMg => k_is)
    (case qlMg => k_is)
    (case qcMg => k_is)
    (case qkMg => k_is)
    (case qaMc => k_is)
    (case qlMc => k_is)
    (case qcMc => k_is)
    (case qkMc => k_is)
    (case qaMn => k_is)
    (case qlMn => k_is)
    (case qcMn => k_is)
    (case qkMn => k_is)
    (case qaMo => k_is)
    (case qlMo => k_is)
    (case qcMo => k_is)
    (case qkMo => k_is)
    (case qaMh => k_is)
    (case qlMh => k_is)
    (case qcMh => k_is)
    (case qkMh => k_is)
    (case qaMp => k_is)
    (case qlMp => k_is)
    (case qcMp => k_is)
    (case qkMp => k_is)
    (case qaCo => k_is)
    (case qlCo => k_is)
    (case qcCo => k_is)
    (case qkCo => k_is)
    (case qaCi => k_is)
    (case qlCi => k_is)
    (case qcCi => k_is)
    (case qkCi => k_is)
    (case qaWf => k_is)
    (case qlWf => k_is)
    (case qcWf => k_is)
    (case qkWf => k_is)
    (case qaWs => k_is)
    (case qlWs => k_is)
    (case qcWs => k_is)
    (case qkWs => k_is)
    (case qaWp => k_is)
    (case qlWp => k_is)
    (case qcWp => k_is)
    (case qkWp => k_is)
    (case qaWtx => k_is)
    (case qlWtx => k_is)
    (case qcWtx => k_is)
    (case qkWtx => k_is)
    (case qaC => k_is)
    (case qlC => k_is)
    (case qcC => k_is)
    (case qkC => k_is)
    (case qaD => k_is)
    (case qlD => k_is)
    (case qcD => k_is)
    (case qkD => k_is)
    (case qaR => k_is)
    (case qlR => k_is)
    (case qcR => k_is)
    (case qkR => k_is)
    (case qaS => k_is)
    (case qlS => k_is)
    (case qcS => k_is)
    (case qkS => k_is)
    (case qaE => k_is)
    (case qlE => k_is)
    (case qcE => k_is)
    (case qkE => k_is)
    (case qaK => k_is)
    (case qlK => k_is)
    (case qcK => k_is)
    (case qkK => k_is)
    (case qaT => k_is)
    (case qlT => k_is)
    (case qcT => k_is)
    (case qkT => k_is)
    (case qaN => k_is)
    (case qlN => k_is)
    (case qcN => k_is)
    (case qkN => k_is)
    (case qaA => k_is)
    (case qlA => k_is)
    (case qcA => k_is)
    (case qkA => k_is)
    (case qaP => k_is)
    (case qlP => k_is)
    (case qcP => k_is)
    (case qkP => k_is)
    (case qaB => k_is)
    (case qlB => k_is)
    (case qcB => k_is)
    (case qkB => k_is)
    (case qaLv => k_is)
    (case qlLv => k_is)
    (case qcLv => k_is)
    (case qkLv => k_is)
    (case qaLl => k_is)
    (case qlLl => k_is)
    (case qcLl => k_is)
    (case qkLl => k_is)
    (case qaLf => k_is)
    (case qlLf => k_is)
    (case qcLf => k_is)
    (case qkLf => k_is)
    (case qaLc => k_is)
    (case qlLc => k_is)
    (case qcLc => k_is)
    (case qkLc => k_is)
    (case qaLp => k_is)
    (case qlLp => k_is)
    (case qcLp => k_is)
    (case qkLp => k_is)
    (case qaLa => k_is)
    (case qlLa => k_is)
    (case qcLa => k_is)
    (case qkLa => k_is)
    (case qaLs => k_is)
    (case qlLs => k_is)
    (case qcLs => k_is)
    (case qkLs => k_is)
    (case qaLi => k_is)
    (case qlLi => k_is)
    (case qcLi => k_is)
    (case qkLi => k_is)
    (case qaLnu => k_is)
    (case qlLnu => k_is)
    (case qcLnu => k_is)
    (case qkLnu => k_is)
    (case qaLnm => k_is)
    (case qlLnm => k_is)
    (case qcLnm => k_is)
    (case qkLnm => k_is)
    (case qaLwr => k_is)
    (case qlLwr => k_is)
    (case qcLwr => k_is)
    (case qkLwr => k_is)
    (case qaLpg => k_is)
    (case qlLpg => k_is)
    (case qcLpg => k_is)
    (case qkLpg => k_is)
    (case qaLev => k_is)
    (case qlLev => k_is)
    (case qcLev => k_is)
    (case qkLev => k_is)
    (case qaLpt => k_is)
    (case qlLpt => k_is)
    (case qcLpt => k_is)
    (case qkLpt => k_is)
    (case qaw => k_is)
    (case qlw => k_is)
    (case qcw => k_is)
    (case qkw => k_is)
    (case qaSv0 => k_is)
    (case qiSv0 => k_is)
    (case qlSv0 => k_is)
    (case qcSv0 => k_is)
    (case qkSv0 => k_is)
    (case qaSrs => k_is)
    (case qiSrs => k_is)
    (case qlSrs => k_is)
    (case qcSrs => k_is)
    (case qkSrs => k_is)
    (case qaSrn => k_is)
    (case qiSrn => k_is)
    (case qlSrn => k_is)
    (case qcSrn => k_is)
    (case qkSrn => k_is)
    (case qaSwa => k_is)
    (case qiSwa => k_is)
    (case qlSwa => k_is)
    (case qcSwa => k_is)
    (case qkSwa => k_is)
    (case qaSsd => k_is)
    (case qiSsd => k_is)
    (case qlSsd => k_is)
    (case qcSsd => k_is)
    (case qkSsd => k_is)
    (case qpgSv => k_is)
    (case qhdSv => k_is)
    (case qpoSv => k_is)
    (case qsaSv => k_is)
    (case qmkSv => k_is)
    (case qkCSv => k_is)
    (case qnSv_program => k_is)
    (case qnSv_sent => k_is)
    (case qnSv_ready => k_is)
    (case qz_len => k_is)
    (case qz_range => k_is)
    (case qz_int => k_is)
    (case qz_isinstance => k_is)
    (case qz_tuple => k_is)
    (case qz_bool => k_is)
    (case qz_str => k_is)
    (case qz_list => k_is)
    (case qz_max => k_is)
    (case qz_min => k_is)
    (case qz_enumerate => k_is)
    (case qz_set => k_is)
    (case qz_sorted => k_is)
    (case qy_VALUES => k_is)
    (case qy_REPEATS => k_is)
