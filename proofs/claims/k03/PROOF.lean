import PyProof.Rows.All
import Wide.All
import OpenK.AllK
import Wide.FinOn
import HandS.ForMost
import HandS.ForExc
import HandS.IsInst
import HandS.Wide
import HandS.More
import HandS.CallSlots
import HandS.Flow
import HandS.Zip
import HandS.SortInts
import HandS.WordsDict
import HandS.RaiseMore
import HandS.Style
import PySem.Challenge.RW_needleblind_k03_whole_worths_of_expressi
set_option Elab.async false
set_option linter.all false
set_option maxRecDepth 100000
set_option maxHeartbeats 4000000
/-! A model layer over the hand layer: values with tuples by value, a heap by numbers, and for each construct a function of these. -/
namespace Mo
open PySem PySem.Spec PyProof.Rows L2

/-- a value: tuples by value, objects that change by their number; glo: what a global name holds -/
inductive D where
  | non | bl (b : Bool) | int (i : Int) | str (x : Str) | tup (ds : List D) | ref (n : Nat) | ty (n : String) | glo (x : Str)
/-- an object -/
inductive MO where
  | lst (ds : List D) | fls (ds : List D) | dk (kvs : List (Key × D)) | ins (c : Str) (fs : List (Str × D))
abbrev Mh := List MO
abbrev Ren := List Addr
abbrev Sg := List (Option D)
def MO.mu : MO → Bool
  | .fls _ => false
  | _ => true

/-! ### how it stands in the abstract heap -/
section
variable (K : PySem.W.Frag) (mg : Str → Option Value) (ρ : Ren) (H : Hp)
mutual
inductive RV : V → D → Prop
  | non : RV .non .non
  | bl (b : Bool) : RV (.bl b) (.bl b)
  | int (i : Int) : RV (.int i) (.int i)
  | str (x : Str) : RV (.str x) (.str x)
  | ty (n : String) : RV (.ty n) (.ty n)
  | ref {n : Nat} {a : Addr} : ρ[n]? = some a → RV (.ref a) (.ref n)
  | glo {x : Str} {a : Addr} : mg x = some (.ref a) → RV (.ref a) (.glo x)
  | tup {a : Addr} {vs : List V} {ds : List D} : SqT K H a vs → RVs vs ds → RV (.ref a) (.tup ds)
inductive RVs : List V → List D → Prop
  | nil : RVs [] []
  | cons {v : V} {vs : List V} {d : D} {ds : List D} : RV v d → RVs vs ds → RVs (v :: vs) (d :: ds)
end
/-- a list that is never changed -/
def FzL (a : Addr) (vs : List V) : Prop := (∃ o, H a = some (.frz o (.lst vs))) ∨
  ∃ (o : Obj) (its : Array Value) (n : Nat), K.lookup a = some o ∧ o.cls = .type "list" ∧ o.dict = none ∧ o.data = .seq its n ∧ its.size ≤ sizeLine ∧ Vals vs its.toList
inductive RO (a : Addr) : MO → Prop
  | lst {vs : List V} {ds : List D} : H a = some (.lst vs) → RVs K mg ρ H vs ds → RO a (.lst ds)
  | fls {vs : List V} {ds : List D} : FzL K H a vs → RVs K mg ρ H vs ds → RO a (.fls ds)
  | dk {kvs : List (Key × V)} {kds : List (Key × D)} : H a = some (.dK kvs) → kvs.map (·.1) = kds.map (·.1) → RVs K mg ρ H (kvs.map (·.2)) (kds.map (·.2)) → RO a (.dk kds)
  | ins {c : Str} {C dx : Addr} {fv : List (Str × V)} {fd : List (Str × D)} : mg c = some (.ref C) → H a = some (.ins C dx fv) → fv.map (·.1) = fd.map (·.1) → RVs K mg ρ H (fv.map (·.2)) (fd.map (·.2)) → RO a (.ins c fd)
end
structure RHp (K : PySem.W.Frag) (mg : Str → Option Value) (ρ : Ren) (H : Hp) (h : Mh) : Prop where
  len : ρ.length = h.length
  obj : ∀ (n : Nat) (a : Addr) (o : MO), ρ[n]? = some a → h[n]? = some o → RO K mg ρ H a o
  inj : ∀ (n m : Nat) (a : Addr) (o u : MO), ρ[n]? = some a → ρ[m]? = some a → h[n]? = some o → h[m]? = some u → o.mu = true → u.mu = true → n = m
structure Le (K : PySem.W.Frag) (ρ : Ren) (H : Hp) (ρ' : Ren) (H' : Hp) : Prop where
  pre : ∀ (n : Nat) (a : Addr), ρ[n]? = some a → ρ'[n]? = some a
  tup : ∀ a vs, SqT K H a vs → SqT K H' a vs
structure RSt (K : PySem.W.Frag) (mg : Str → Option Value) (ρ : Ren) (H : Hp) (σ : L2.St) (sg : Sg) : Prop where
  len : σ.length = sg.length
  val : ∀ (i : Nat) (d : D), sg[i]? = some (some d) → ∃ v, σ[i]? = some (some v) ∧ RV K mg ρ H v d

section
variable {K : PySem.W.Frag} {mg : Str → Option Value} {ρ ρ' ρ'' : Ren} {H H' H'' : Hp}
theorem Le.refl : Le K ρ H ρ H := ⟨fun _ _ h => h, fun _ _ h => h⟩
theorem Le.trans (a : Le K ρ H ρ' H') (b : Le K ρ' H' ρ'' H'') : Le K ρ H ρ'' H'' := ⟨fun n x h => b.pre n x (a.pre n x h), fun x vs h => b.tup x vs (a.tup x vs h)⟩
mutual
theorem RV.mono (le : Le K ρ H ρ' H') : ∀ {v : V} {d : D}, RV K mg ρ H v d → RV K mg ρ' H' v d
  | _, _, .non => .non
  | _, _, .bl b => .bl b
  | _, _, .int i => .int i
  | _, _, .str x => .str x
  | _, _, .ty n => .ty n
  | _, _, .ref h => .ref (le.pre _ _ h)
  | _, _, .glo h => .glo h
  | _, _, .tup h r => .tup (le.tup _ _ h) (RVs.mono le r)
theorem RVs.mono (le : Le K ρ H ρ' H') : ∀ {vs : List V} {ds : List D}, RVs K mg ρ H vs ds → RVs K mg ρ' H' vs ds
  | _, _, .nil => .nil
  | _, _, .cons r t => .cons (RV.mono le r) (RVs.mono le t)
end
theorem RSt.mono {σ : L2.St} {sg : Sg} (le : Le K ρ H ρ' H') (r : RSt K mg ρ H σ sg) : RSt K mg ρ' H' σ sg := ⟨r.len, fun i d h => let ⟨v, e, q⟩ := r.val i d h; ⟨v, e, q.mono le⟩⟩
theorem RVs.length : ∀ {vs : List V} {ds : List D}, RVs K mg ρ H vs ds → vs.length = ds.length
  | _, _, .nil => rfl
  | _, _, .cons _ t => congrArg (· + 1) (RVs.length t)
theorem RVs.get : ∀ {vs : List V} {ds : List D} {i : Nat} {d : D}, RVs K mg ρ H vs ds → ds[i]? = some d → ∃ v, vs[i]? = some v ∧ RV K mg ρ H v d
  | _, _, _, _, .nil, e => by simp at e
  | _, _, 0, _, .cons r _, e => by simp at e; subst e; exact ⟨_, rfl, r⟩
  | _, _, i + 1, d, .cons _ t, e => by
    obtain ⟨v, h1, h2⟩ := RVs.get (i := i) (d := d) t (by simpa using e)
    exact ⟨v, by simpa using h1, h2⟩
theorem RVs.getV : ∀ {vs : List V} {ds : List D} {i : Nat} {v : V}, RVs K mg ρ H vs ds → vs[i]? = some v → ∃ d, ds[i]? = some d ∧ RV K mg ρ H v d
  | _, _, _, _, .nil, e => by simp at e
  | _, _, 0, _, .cons r _, e => by simp at e; subst e; exact ⟨_, rfl, r⟩
  | _, _, i + 1, v, .cons _ t, e => by
    obtain ⟨d, h1, h2⟩ := RVs.getV (i := i) (v := v) t (by simpa using e)
    exact ⟨d, by simpa using h1, h2⟩
theorem RVs.append : ∀ {vs ws : List V} {ds es : List D}, RVs K mg ρ H vs ds → RVs K mg ρ H ws es → RVs K mg ρ H (vs ++ ws) (ds ++ es)
  | _, _, _, _, .nil, s => s
  | _, _, _, _, .cons r t, s => .cons r (RVs.append t s)
theorem RVs.take : ∀ {vs : List V} {ds : List D} (n : Nat), RVs K mg ρ H vs ds → RVs K mg ρ H (vs.take n) (ds.take n)
  | _, _, 0, _ => .nil
  | _, _, _ + 1, .nil => .nil
  | _, _, n + 1, .cons r t => .cons r (RVs.take n t)
theorem RVs.drop : ∀ {vs : List V} {ds : List D} (n : Nat), RVs K mg ρ H vs ds → RVs K mg ρ H (vs.drop n) (ds.drop n)
  | _, _, 0, r => r
  | _, _, _ + 1, .nil => .nil
  | _, _, n + 1, .cons _ t => RVs.drop n t
theorem RVs.set : ∀ {vs : List V} {ds : List D} (n : Nat) {v : V} {d : D}, RVs K mg ρ H vs ds → RV K mg ρ H v d → RVs K mg ρ H (vs.set n v) (ds.set n d)
  | _, _, _, _, _, .nil, _ => .nil
  | _, _, 0, _, _, .cons _ t, q => .cons q t
  | _, _, n + 1, _, _, .cons r t, q => .cons r (RVs.set n t q)
theorem RVs.reverse {vs : List V} {ds : List D} (r : RVs K mg ρ H vs ds) : RVs K mg ρ H vs.reverse ds.reverse := by
  induction vs generalizing ds with
  | nil => cases r; exact .nil
  | cons v vs ih =>
    cases r with
    | cons r t =>
      rw [List.reverse_cons, List.reverse_cons]
      exact (ih t).append (.cons r .nil)
theorem RVs.eraseIdx : ∀ {vs : List V} {ds : List D} (n : Nat), RVs K mg ρ H vs ds → RVs K mg ρ H (vs.eraseIdx n) (ds.eraseIdx n)
  | _, _, _, .nil => .nil
  | _, _, 0, .cons _ t => t
  | _, _, n + 1, .cons r t => .cons r (RVs.eraseIdx n t)
theorem RVs.ints : ∀ {vs : List V} {ns : List Int}, RVs K mg ρ H vs (ns.map D.int) → vs = ns.map V.int
  | _, [], .nil => rfl
  | _, n :: ns, .cons r t => by cases r; rw [RVs.ints t]; rfl
theorem RVs.ofInts : ∀ (ns : List Int), RVs K mg ρ H (ns.map V.int) (ns.map D.int)
  | [] => .nil
  | n :: ns => .cons (.int n) (RVs.ofInts ns)
theorem RVs.strs : ∀ {vs : List V} {ns : List Str}, RVs K mg ρ H vs (ns.map D.str) → vs = ns.map V.str
  | _, [], .nil => rfl
  | _, n :: ns, .cons r t => by cases r; rw [RVs.strs t]; rfl
theorem RVs.ofStrs : ∀ (ns : List Str), RVs K mg ρ H (ns.map V.str) (ns.map D.str)
  | [] => .nil
  | n :: ns => .cons (.str n) (RVs.ofStrs ns)
theorem RVs.bools : ∀ {vs : List V} {ns : List Bool}, RVs K mg ρ H vs (ns.map D.bl) → vs = ns.map V.bl
  | _, [], .nil => rfl
  | _, n :: ns, .cons r t => by cases r; rw [RVs.bools t]; rfl

/-! ### new objects, changes -/
theorem SqT.upd_new {a p : Addr} {o : HO} {vs : List V} (hp : H p = none) (h : SqT K H a vs) : SqT K (upd H p o) a vs := by
  rcases h with (h | ⟨u, h⟩) | h
  · exact .inl (.inl (by rw [upd_ne (ne_of_none h hp)]; exact h))
  · exact .inl (.inr ⟨u, by rw [upd_ne (ne_of_none h hp)]; exact h⟩)
  · exact .inr h
theorem FzL.sq {a : Addr} {vs : List V} (h : FzL K H a vs) : SqL K H a vs := by
  rcases h with ⟨u, h⟩ | h
  · exact .inl (.inr ⟨u, h⟩)
  · exact .inr h
theorem FzL.upd_new {a p : Addr} {o : HO} {vs : List V} (hp : H p = none) (h : FzL K H a vs) : FzL K (upd H p o) a vs := by
  rcases h with ⟨u, h⟩ | h
  · exact .inl ⟨u, by rw [upd_ne (ne_of_none h hp)]; exact h⟩
  · exact .inr h
theorem Le.new {p : Addr} {o : HO} (hp : H p = none) : Le K ρ H ρ (upd H p o) := ⟨fun _ _ h => h, fun _ _ h => SqT.upd_new hp h⟩
theorem RO.new {a p : Addr} {o : HO} {u : MO} (hp : H p = none) (le : Le K ρ H ρ' (upd H p o)) (r : RO K mg ρ H a u) : RO K mg ρ' (upd H p o) a u := by
  cases r with
  | lst h r => exact .lst (by rw [upd_ne (ne_of_none h hp)]; exact h) (r.mono le)
  | fls h r => exact .fls (FzL.upd_new hp h) (r.mono le)
  | dk h e r => exact .dk (by rw [upd_ne (ne_of_none h hp)]; exact h) e (r.mono le)
  | ins g h e r => exact .ins g (by rw [upd_ne (ne_of_none h hp)]; exact h) e (r.mono le)
/-- an object is made that the model does not count (a tuple) -/
theorem RHp.made {h : Mh} {p : Addr} {o : HO} (r : RHp K mg ρ H h) (hp : H p = none) : RHp K mg ρ (upd H p o) h :=
  ⟨r.len, fun n a u e1 e2 => (r.obj n a u e1 e2).new hp (Le.new hp), r.inj⟩
theorem RO.there {a : Addr} {u : MO} (r : RO K mg ρ H a u) (m : u.mu = true) : ∃ o, H a = some o := by
  cases r with
  | lst h _ => exact ⟨_, h⟩
  | fls _ _ => cases m
  | dk h _ _ => exact ⟨_, h⟩
  | ins _ h _ _ => exact ⟨_, h⟩
theorem Le.grow {p : Addr} {o : HO} (hp : H p = none) : Le K ρ H (ρ ++ [p]) (upd H p o) := ⟨fun n a h => by
  rw [List.getElem?_append_left (List.getElem?_eq_some_iff.mp h).1]; exact h, fun _ _ h => SqT.upd_new hp h⟩
/-- an object is made that the model counts -/
theorem RHp.grow {h : Mh} {p : Addr} {o : HO} {u : MO} (r : RHp K mg ρ H h) (hp : H p = none) (new : RO K mg (ρ ++ [p]) (upd H p o) p u) : RHp K mg (ρ ++ [p]) (upd H p o) (h ++ [u]) := by
  have at1 : ∀ {n : Nat} {a : Addr} {x : MO}, (ρ ++ [p])[n]? = some a → (h ++ [u])[n]? = some x → (ρ[n]? = some a ∧ h[n]? = some x) ∨ (n = h.length ∧ a = p ∧ x = u) := fun {n a x} e1 e2 => by
    by_cases hn : n < h.length
    · rw [List.getElem?_append_left (by rw [r.len]; exact hn)] at e1
      rw [List.getElem?_append_left hn] at e2
      exact .inl ⟨e1, e2⟩
    · have hn' : n = h.length := by
        have := (List.getElem?_eq_some_iff.mp e2).1
        rw [List.length_append, List.length_singleton] at this
        omega
      subst hn'
      rw [List.getElem?_append_right (by rw [r.len]; exact Nat.le_refl _), r.len, Nat.sub_self] at e1
      rw [List.getElem?_append_right (Nat.le_refl _), Nat.sub_self] at e2
      exact .inr ⟨rfl, (Option.some.inj e1).symm, (Option.some.inj e2).symm⟩
  refine ⟨by rw [List.length_append, List.length_append, r.len]; rfl, fun n a x e1 e2 => ?_, fun n m a x y e1 e2 e3 e4 m1 m2 => ?_⟩
  · rcases at1 e1 e2 with ⟨f1, f2⟩ | ⟨_, rfl, rfl⟩
    · exact (r.obj n a x f1 f2).new hp (Le.grow hp)
    · exact new
  · rcases at1 e1 e3 with ⟨f1, f2⟩ | ⟨n1, n2, n3⟩
    · rcases at1 e2 e4 with ⟨g1, g2⟩ | ⟨k1, k2, k3⟩
      · exact r.inj n m a x y f1 g1 f2 g2 m1 m2
      · obtain ⟨o', h'⟩ := (r.obj n a x f1 f2).there m1
        rw [k2, hp] at h'; cases h'
    · rcases at1 e2 e4 with ⟨g1, g2⟩ | ⟨k1, _, _⟩
      · obtain ⟨o', h'⟩ := (r.obj m a y g1 g2).there m2
        rw [n2, hp] at h'; cases h'
      · rw [n1, k1]
theorem RHp.at_new {h : Mh} {p : Addr} (r : RHp K mg ρ H h) : (ρ ++ [p])[h.length]? = some p := by
  rw [List.getElem?_append_right (by rw [r.len]; exact Nat.le_refl _), r.len, Nat.sub_self]; rfl
def notTup : HO → Prop
  | .lst _ => True
  | .dK _ => True
  | .ins _ _ _ => True
  | _ => False
theorem Le.write {a : Addr} {o o' : HO} (ha : H a = some o) (nt : notTup o) : Le K ρ H ρ (upd H a o') := ⟨fun _ _ h => h, fun b vs h => by
  rcases h with (h | ⟨u, h⟩) | h
  · refine .inl (.inl ?_)
    rw [upd_ne (by intro e; subst e; rw [ha] at h; cases h; exact nt)]; exact h
  · refine .inl (.inr ⟨u, ?_⟩)
    rw [upd_ne (by intro e; subst e; rw [ha] at h; cases h; exact nt)]; exact h
  · exact .inr h⟩
/-- an object is changed -/
theorem RHp.write {h : Mh} {n : Nat} {a : Addr} {o o' : HO} {x u : MO} (r : RHp K mg ρ H h) (hn : ρ[n]? = some a) (hx : h[n]? = some x) (mx : x.mu = true) (mu' : u.mu = true) (ha : H a = some o) (nt : notTup o)
    (new : RO K mg ρ (upd H a o') a u) : RHp K mg ρ (upd H a o') (h.set n u) := by
  have le : Le K ρ H ρ (upd H a o') := Le.write ha nt
  refine ⟨by rw [List.length_set]; exact r.len, fun m b y e1 e2 => ?_, fun m k b y z e1 e2 e3 e4 m1 m2 => ?_⟩
  · by_cases hm : m = n
    · subst hm
      rw [hn] at e1; cases e1
      rw [List.getElem?_set_self (List.getElem?_eq_some_iff.mp hx).1] at e2
      cases e2
      exact new
    · rw [List.getElem?_set_ne (Ne.symm hm)] at e2
      have ro := r.obj m b y e1 e2
      have nb : y.mu = true → b ≠ a := fun my e => hm (r.inj m n a y x (by rw [← e]; exact e1) hn e2 hx my mx)
      cases ro with
      | lst h1 r1 => exact .lst (by rw [upd_ne (nb rfl)]; exact h1) (r1.mono le)
      | fls h1 r1 =>
        refine .fls ?_ (r1.mono le)
        rcases h1 with ⟨q, h1⟩ | h1
        · exact .inl ⟨q, by rw [upd_ne (by intro e; subst e; rw [ha] at h1; cases h1; exact nt)]; exact h1⟩
        · exact .inr h1
      | dk h1 e r1 => exact .dk (by rw [upd_ne (nb rfl)]; exact h1) e (r1.mono le)
      | ins g h1 e r1 => exact .ins g (by rw [upd_ne (nb rfl)]; exact h1) e (r1.mono le)
  · have back : ∀ {j : Nat} {y : MO}, (h.set n u)[j]? = some y → y.mu = true → ∃ y', h[j]? = some y' ∧ y'.mu = true := fun {j y} e m => by
      by_cases hj : j = n
      · subst hj; exact ⟨x, hx, mx⟩
      · rw [List.getElem?_set_ne (Ne.symm hj)] at e; exact ⟨y, e, m⟩
    obtain ⟨y', f1, f2⟩ := back e3 m1
    obtain ⟨z', g1, g2⟩ := back e4 m2
    exact r.inj m k b y' z' e1 e2 f1 g1 f2 g2
end
end Mo

namespace Mo
open PySem PySem.Spec PyProof.Rows L2

/-! ### what comes of a step -/
inductive R (α : Type) where
  | ok (a : α) (h : Mh) | exc (c : Str) (fs : List (Str × D)) (h : Mh) | bad
def R.bind {α β : Type} : R α → (α → Mh → R β) → R β
  | .ok a h, f => f a h
  | .exc c fs h, _ => .exc c fs h
  | .bad, _ => .bad
theorem R.bind_ok {α β : Type} {a : α} {h : Mh} {f : α → Mh → R β} : (R.ok a h).bind f = f a h := rfl
theorem R.bind_bad {α β : Type} {f : α → Mh → R β} : (R.bad : R α).bind f = .bad := rfl
theorem R.bind_exc {α β : Type} {c fs h} {f : α → Mh → R β} : (R.exc c fs h : R α).bind f = .exc c fs h := rfl
theorem R.bind_assoc {α β γ : Type} (r : R α) (f : α → Mh → R β) (g : β → Mh → R γ) : (r.bind f).bind g = r.bind fun a h => (f a h).bind g := by cases r <;> rfl
inductive RS where
  | nx (sg : Sg) (h : Mh) | rt (d : D) (h : Mh) | bk (sg : Sg) (h : Mh) | ct (sg : Sg) (h : Mh) | exc (c : Str) (fs : List (Str × D)) (sg : Sg) (h : Mh) | bad
/-- an expression's outcome, then a statement's -/
def R.th {α : Type} : R α → Sg → (α → Mh → RS) → RS
  | .ok a h, _, f => f a h
  | .exc c fs h, sg, _ => .exc c fs sg h
  | .bad, _, _ => .bad
theorem R.th_ok {α : Type} {a : α} {h : Mh} {sg : Sg} {f : α → Mh → RS} : (R.ok a h).th sg f = f a h := rfl
theorem R.th_bind {α β : Type} (r : R α) (f : α → Mh → R β) (sg : Sg) (g : β → Mh → RS) : (r.bind f).th sg g = r.th sg fun a h => (f a h).th sg g := by cases r <;> rfl
/-- a statement, then the next -/
def RS.th : RS → (Sg → Mh → RS) → RS
  | .nx sg h, f => f sg h
  | r, _ => r

section
variable (K : PySem.W.Frag) (mg : Str → Option Value)
def RX (ρ : Ren) (H : Hp) (dx : Option Addr) (fs : List (Str × D)) : Prop := match dx with
  | none => fs = []
  | some d => ∃ fv : List (Str × V), H d = some (.xd fv) ∧ fv.map (·.1) = fs.map (·.1) ∧ RVs K mg ρ H (fv.map (·.2)) (fs.map (·.2))
def WG {α β : Type} (rel : Ren → Hp → β → α → Prop) (W : WX) (σ : L2.St) (Q : β → Hp → Prop) (ρ : Ren) (H : Hp) : R α → Prop
  | .ok a h' => ∀ ρ' H' v, Le K ρ H ρ' H' → RHp K mg ρ' H' h' → rel ρ' H' v a → Q v H'
  | .exc c fs h' => ∀ ρ' H' C dx, Le K ρ H ρ' H' → RHp K mg ρ' H' h' → mg c = some (.ref C) → RX K mg ρ' H' dx fs → W (.ref C) dx σ H'
  | .bad => False
abbrev WV (W : WX) (σ : L2.St) (Q : VK) (ρ : Ren) (H : Hp) : R D → Prop := WG K mg (RV K mg) W σ Q ρ H
def TM (W : WX) (m : Sg → Mh → R D) : TE := fun σ H Q => ∃ ρ sg h, RSt K mg ρ H σ sg ∧ RHp K mg ρ H h ∧ WG K mg (RV K mg) W σ Q ρ H (m sg h)
def TMb (W : WX) (m : Sg → Mh → R Bool) : TT := fun σ H Q => ∃ ρ sg h, RSt K mg ρ H σ sg ∧ RHp K mg ρ H h ∧ WG K mg (fun _ _ v a => v = a) W σ Q ρ H (m sg h)
def TMl (W : WX) (m : Sg → Mh → R (List D)) : TA := fun σ H Q => ∃ ρ sg h, RSt K mg ρ H σ sg ∧ RHp K mg ρ H h ∧ WG K mg (RVs K mg) W σ Q ρ H (m sg h)
def WS (W : WX) (E : Ends) (ρ : Ren) (H : Hp) : RS → Prop
  | .nx sg' h' => ∀ ρ' H' σ', Le K ρ H ρ' H' → RHp K mg ρ' H' h' → RSt K mg ρ' H' σ' sg' → E.nx σ' H'
  | .rt d h' => ∀ ρ' H' v, Le K ρ H ρ' H' → RHp K mg ρ' H' h' → RV K mg ρ' H' v d → E.rt v H'
  | .bk sg' h' => ∀ ρ' H' σ', Le K ρ H ρ' H' → RHp K mg ρ' H' h' → RSt K mg ρ' H' σ' sg' → E.bk σ' H'
  | .ct sg' h' => ∀ ρ' H' σ', Le K ρ H ρ' H' → RHp K mg ρ' H' h' → RSt K mg ρ' H' σ' sg' → E.ct σ' H'
  | .exc c fs sg' h' => ∀ ρ' H' σ' C dx, Le K ρ H ρ' H' → RHp K mg ρ' H' h' → RSt K mg ρ' H' σ' sg' → mg c = some (.ref C) → RX K mg ρ' H' dx fs → W (.ref C) dx σ' H'
  | .bad => False
def TMS (W : WX) (m : Sg → Mh → RS) : TS := fun E σ H => ∃ ρ sg h, RSt K mg ρ H σ sg ∧ RHp K mg ρ H h ∧ WS K mg W E ρ H (m sg h)
end
structure PM (X : Cx) (W : WX) (e : Expr) (m : Sg → Mh → R D) : Prop where
  pe : PE X e (TM X.K X.mg W m)
structure PB (X : Cx) (W : WX) (e : Expr) (m : Sg → Mh → R Bool) : Prop where
  pt : PT X e (TMb X.K X.mg W m)
structure PL (X : Cx) (W : WX) (es : List Expr) (m : Sg → Mh → R (List D)) : Prop where
  pa : PA X es (TMl X.K X.mg W m)
structure PSM (X : Cx) (W : WX) (st : Stmt) (m : Sg → Mh → RS) : Prop where
  ps : PS X st (TMS X.K X.mg W m)
structure PSL (X : Cx) (W : WX) (st : List Stmt) (m : Sg → Mh → RS) : Prop where
  ps : PSs X st (TMS X.K X.mg W m)

theorem PEimp {X : Cx} {e : Expr} {t t' : TE} (h : PE X e t) (i : ∀ σ H Q, t' σ H Q → t σ H Q) : PE X e t' := ⟨fun pins s σ H Q I hw => h.run pins s σ H Q I (i _ _ _ hw)⟩
theorem PTimp {X : Cx} {e : Expr} {t t' : TT} (h : PT X e t) (i : ∀ σ H Q, t' σ H Q → t σ H Q) : PT X e t' := ⟨fun pins s σ H Q I hw => h.run pins s σ H Q I (i _ _ _ hw)⟩
theorem PAimp {X : Cx} {e : List Expr} {t t' : TA} (h : PA X e t) (i : ∀ σ H Q, t' σ H Q → t σ H Q) : PA X e t' := ⟨fun pos pins s σ H Q I hw => h.run pos pins s σ H Q I (i _ _ _ hw)⟩
theorem PSimp {X : Cx} {e : Stmt} {t t' : TS} (h : PS X e t) (i : ∀ E σ H, t' E σ H → t E σ H) : PS X e t' := ⟨fun pins s σ H D I hw => h.run pins s σ H D I (i _ _ _ hw)⟩
theorem PSsimp {X : Cx} {e : List Stmt} {t t' : TS} (h : PSs X e t) (i : ∀ E σ H, t' E σ H → t E σ H) : PSs X e t' := ⟨fun pins s σ H D I hw => h.run pins s σ H D I (i _ _ _ hw)⟩
theorem PIimp {X : Cx} {g e : Expr} {t t' : TI} (h : PI X g e t) (i : ∀ σ H Q, t' σ H Q → t σ H Q) : PI X g e t' := ⟨fun pins s σ H R I hw => h.run pins s σ H R I (i _ _ _ hw)⟩
theorem PEor {X : Cx} {e : Expr} {t t' : TE} (h : PE X e t) (h' : PE X e t') : PE X e (fun σ H Q => t σ H Q ∨ t' σ H Q) := ⟨fun pins s σ H Q I hw => hw.elim (h.run pins s σ H Q I) (h'.run pins s σ H Q I)⟩
theorem PIor {X : Cx} {g e : Expr} {t t' : TI} (h : PI X g e t) (h' : PI X g e t') : PI X g e (fun σ H Q => t σ H Q ∨ t' σ H Q) := ⟨fun pins s σ H Q I hw => hw.elim (h.run pins s σ H Q I) (h'.run pins s σ H Q I)⟩
theorem OpRor {X : Cx} {f : Value → Value → Sem Value} {r r' : R2} (h : OpR X f r) (h' : OpR X f r') : OpR X f (fun x y H Q => r x y H Q ∨ r' x y H Q) :=
  fun pins s σ H x y v u Q I a b hw => hw.elim (h pins s σ H x y v u Q I a b) (h' pins s σ H x y v u Q I a b)
theorem CallRor {X : Cx} {f : Value} {r r' : List V → Hp → VK → Prop} (h : CallR X f r) (h' : CallR X f r') : CallR X f (fun xs H Q => r xs H Q ∨ r' xs H Q) :=
  fun pins s σ H xs us Q I a hw => hw.elim (h pins s σ H xs us Q I a) (h' pins s σ H xs us Q I a)

section
variable {K : PySem.W.Frag} {mg : Str → Option Value} {W : WX} {ρ ρ1 : Ren} {H H1 : Hp} {σ : L2.St} {sg : Sg} {h : Mh}
theorem WG.mono {α β : Type} {rel : Ren → Hp → β → α → Prop} {Q : β → Hp → Prop} {r : R α} (le : Le K ρ H ρ1 H1) (w : WG K mg rel W σ Q ρ H r) : WG K mg rel W σ Q ρ1 H1 r := by
  cases r with
  | ok a h' => exact fun ρ' H' v l => w ρ' H' v (le.trans l)
  | exc c fs h' => exact fun ρ' H' C dx l => w ρ' H' C dx (le.trans l)
  | bad => exact w
theorem WS.mono {E : Ends} {r : RS} (le : Le K ρ H ρ1 H1) (w : WS K mg W E ρ H r) : WS K mg W E ρ1 H1 r := by
  cases r with
  | nx sg' h' => exact fun ρ' H' v l => w ρ' H' v (le.trans l)
  | rt sg' h' => exact fun ρ' H' v l => w ρ' H' v (le.trans l)
  | bk sg' h' => exact fun ρ' H' v l => w ρ' H' v (le.trans l)
  | ct sg' h' => exact fun ρ' H' v l => w ρ' H' v (le.trans l)
  | exc c fs sg' h' => exact fun ρ' H' v C dx l => w ρ' H' v C dx (le.trans l)
  | bad => exact w
/-- the first of two steps, by what the second wants -/
theorem WG.cut {α β γ δ : Type} {rel : Ren → Hp → β → α → Prop} {rel2 : Ren → Hp → δ → γ → Prop} {Q : δ → Hp → Prop} {Q1 : β → Hp → Prop} {r : R α} {f : α → Mh → R γ} (w : WG K mg rel2 W σ Q ρ H (r.bind f))
    (k : ∀ ρ1 H1 h1 v a, Le K ρ H ρ1 H1 → RHp K mg ρ1 H1 h1 → rel ρ1 H1 v a → WG K mg rel2 W σ Q ρ1 H1 (f a h1) → Q1 v H1) : WG K mg rel W σ Q1 ρ H r := by
  cases r with
  | ok a h' => exact fun ρ' H' v l rh rv => k ρ' H' h' v a l rh rv (w.mono l)
  | exc c fs h' => exact w
  | bad => exact w
theorem WS.cutS {α β : Type} {rel : Ren → Hp → β → α → Prop} {E : Ends} {Q1 : β → Hp → Prop} {r : R α} {f : α → Mh → RS} (hs : RSt K mg ρ H σ sg) (w : WS K mg W E ρ H (r.th sg f))
    (k : ∀ ρ1 H1 h1 v a, Le K ρ H ρ1 H1 → RHp K mg ρ1 H1 h1 → rel ρ1 H1 v a → WS K mg W E ρ1 H1 (f a h1) → Q1 v H1) : WG K mg rel W σ Q1 ρ H r := by
  cases r with
  | ok a h' => exact fun ρ' H' v l rh rv => k ρ' H' h' v a l rh rv (w.mono l)
  | exc c fs h' => exact fun ρ' H' C dx l rh g x => w ρ' H' σ C dx l rh (hs.mono l) g x
  | bad => exact w
theorem TM.go {γ δ : Type} {rel2 : Ren → Hp → δ → γ → Prop} {Q : δ → Hp → Prop} {Q1 : VK} {m : Sg → Mh → R D} {f : D → Mh → R γ} (hs : RSt K mg ρ H σ sg) (rh : RHp K mg ρ H h) (w : WG K mg rel2 W σ Q ρ H ((m sg h).bind f))
    (k : ∀ ρ1 H1 h1 v a, Le K ρ H ρ1 H1 → RHp K mg ρ1 H1 h1 → RV K mg ρ1 H1 v a → WG K mg rel2 W σ Q ρ1 H1 (f a h1) → Q1 v H1) : TM K mg W m σ H Q1 := ⟨ρ, sg, h, hs, rh, w.cut k⟩
theorem TMb.go {γ δ : Type} {rel2 : Ren → Hp → δ → γ → Prop} {Q : δ → Hp → Prop} {Q1 : Bool → Hp → Prop} {m : Sg → Mh → R Bool} {f : Bool → Mh → R γ} (hs : RSt K mg ρ H σ sg) (rh : RHp K mg ρ H h) (w : WG K mg rel2 W σ Q ρ H ((m sg h).bind f))
    (k : ∀ ρ1 H1 h1 a, Le K ρ H ρ1 H1 → RHp K mg ρ1 H1 h1 → WG K mg rel2 W σ Q ρ1 H1 (f a h1) → Q1 a H1) : TMb K mg W m σ H Q1 := ⟨ρ, sg, h, hs, rh, w.cut fun ρ1 H1 h1 v a le rh e w => by subst e; exact k ρ1 H1 h1 _ le rh w⟩
theorem TMl.go {γ δ : Type} {rel2 : Ren → Hp → δ → γ → Prop} {Q : δ → Hp → Prop} {Q1 : List V → Hp → Prop} {m : Sg → Mh → R (List D)} {f : List D → Mh → R γ} (hs : RSt K mg ρ H σ sg) (rh : RHp K mg ρ H h) (w : WG K mg rel2 W σ Q ρ H ((m sg h).bind f))
    (k : ∀ ρ1 H1 h1 v a, Le K ρ H ρ1 H1 → RHp K mg ρ1 H1 h1 → RVs K mg ρ1 H1 v a → WG K mg rel2 W σ Q ρ1 H1 (f a h1) → Q1 v H1) : TMl K mg W m σ H Q1 := ⟨ρ, sg, h, hs, rh, w.cut k⟩
theorem TM.goS {E : Ends} {Q1 : VK} {m : Sg → Mh → R D} {f : D → Mh → RS} (hs : RSt K mg ρ H σ sg) (rh : RHp K mg ρ H h) (w : WS K mg W E ρ H ((m sg h).th sg f))
    (k : ∀ ρ1 H1 h1 v a, Le K ρ H ρ1 H1 → RHp K mg ρ1 H1 h1 → RV K mg ρ1 H1 v a → WS K mg W E ρ1 H1 (f a h1) → Q1 v H1) : TM K mg W m σ H Q1 := ⟨ρ, sg, h, hs, rh, WS.cutS hs w k⟩
theorem TMb.goS {E : Ends} {Q1 : Bool → Hp → Prop} {m : Sg → Mh → R Bool} {f : Bool → Mh → RS} (hs : RSt K mg ρ H σ sg) (rh : RHp K mg ρ H h) (w : WS K mg W E ρ H ((m sg h).th sg f))
    (k : ∀ ρ1 H1 h1 a, Le K ρ H ρ1 H1 → RHp K mg ρ1 H1 h1 → WS K mg W E ρ1 H1 (f a h1) → Q1 a H1) : TMb K mg W m σ H Q1 := ⟨ρ, sg, h, hs, rh, WS.cutS hs w fun ρ1 H1 h1 v a le rh e w => by subst e; exact k ρ1 H1 h1 _ le rh w⟩
theorem WG.okI {α β : Type} {rel : Ren → Hp → β → α → Prop} {Q : β → Hp → Prop} {a : α} {h' : Mh} {v : β} (w : WG K mg rel W σ Q ρ H (.ok a h')) (le : Le K ρ H ρ1 H1) (rh : RHp K mg ρ1 H1 h') (rv : rel ρ1 H1 v a) : Q v H1 := w ρ1 H1 v le rh rv
/-- a new object of the model -/
theorem WG.alloc {Q : VK} {u : MO} {o : HO} {p : Addr} (w : WV K mg W σ Q ρ H (.ok (.ref h.length) (h ++ [u]))) (rh : RHp K mg ρ H h) (hp : H p = none) (new : RO K mg (ρ ++ [p]) (upd H p o) p u) : Q (.ref p) (upd H p o) :=
  w.okI (Le.grow hp) (rh.grow hp new) (.ref rh.at_new)
/-- a new tuple -/
theorem WG.tuple {Q : VK} {vs : List V} {ds : List D} {p : Addr} (w : WV K mg W σ Q ρ H (.ok (.tup ds) h)) (rh : RHp K mg ρ H h) (hp : H p = none) (r : RVs K mg ρ H vs ds) : Q (.ref p) (upd H p (.tup vs)) :=
  w.okI (Le.new hp) (rh.made hp) (.tup (SqT.of upd_same) (r.mono (Le.new hp)))
theorem RO.newList {vs : List V} {ds : List D} {p : Addr} (hp : H p = none) (r : RVs K mg ρ H vs ds) : RO K mg (ρ ++ [p]) (upd H p (.lst vs)) p (.lst ds) := .lst upd_same (r.mono (Le.grow hp))
end

/-! ### expressions -/
def mLit (d : D) : Sg → Mh → R D := fun _ h => .ok d h
def mVar (i : Nat) : Sg → Mh → R D := fun sg h => match sg[i]? with
  | some (some d) => .ok d h
  | _ => .bad
def m2 (f : D → D → Mh → R D) (a b : Sg → Mh → R D) : Sg → Mh → R D := fun sg h => (a sg h).bind fun x h1 => (b sg h1).bind fun y h2 => f x y h2
def m1 (f : D → Mh → R D) (a : Sg → Mh → R D) : Sg → Mh → R D := fun sg h => (a sg h).bind f
def Sem2 (X : Cx) (r : R2) (f : D → D → Mh → R D) : Prop := ∀ (W : WX) (σ : L2.St) (ρ : Ren) (H : Hp) (h : Mh) (Q : VK) (v1 v2 : V) (d1 d2 : D), RHp X.K X.mg ρ H h → RV X.K X.mg ρ H v1 d1 → RV X.K X.mg ρ H v2 d2 → WV X.K X.mg W σ Q ρ H (f d1 d2 h) → r v1 v2 H Q
def Sem1 (X : Cx) (r : V → Hp → VK → Prop) (f : D → Mh → R D) : Prop := ∀ (W : WX) (σ : L2.St) (ρ : Ren) (H : Hp) (h : Mh) (Q : VK) (v : V) (d : D), RHp X.K X.mg ρ H h → RV X.K X.mg ρ H v d → WV X.K X.mg W σ Q ρ H (f d h) → r v H Q
def SemL (X : Cx) (r : List V → Hp → VK → Prop) (f : List D → Mh → R D) : Prop := ∀ (W : WX) (σ : L2.St) (ρ : Ren) (H : Hp) (h : Mh) (Q : VK) (vs : List V) (ds : List D), RHp X.K X.mg ρ H h → RVs X.K X.mg ρ H vs ds → WV X.K X.mg W σ Q ρ H (f ds h) → r vs H Q
section
variable {X : Cx} {W : WX} {a b c : Expr} {ma mb mc : Sg → Mh → R D} {pos : Pos}
theorem tOp_of {r : R2} {f : D → D → Mh → R D} (s : Sem2 X r f) {σ : L2.St} {H : Hp} {Q : VK} (w : TM X.K X.mg W (m2 f ma mb) σ H Q) : tOp r (TM X.K X.mg W ma) (TM X.K X.mg W mb) σ H Q := by
  obtain ⟨ρ, sg, h, hs, rh, w⟩ := w
  exact TM.go hs rh w fun ρ1 H1 h1 v d le rh1 rv w1 => TM.go (hs.mono le) rh1 w1 fun ρ2 H2 h2 v2 d2 le2 rh2 rv2 w2 => s W σ ρ2 H2 h2 Q v v2 d d2 rh2 (rv.mono le2) rv2 w2
theorem q_lit {e : Expr} {v : V} {d : D} (h : PE X e (tC v)) (r : ∀ ρ H, RV X.K X.mg ρ H v d) : PM X W e (mLit d) := ⟨PEimp h fun σ H Q ⟨ρ, sg, h, hs, rh, w⟩ => w.okI Le.refl rh (r ρ H)⟩
theorem q_int {i j} : PM X W (.Constant (.int i) j pos) (mLit (.int i)) := q_lit pe_int fun _ _ => .int i
theorem q_bl {i j} : PM X W (.Constant (.bool i) j pos) (mLit (.bl i)) := q_lit pe_bl fun _ _ => .bl i
theorem q_str {i j} : PM X W (.Constant (.str i) j pos) (mLit (.str i)) := q_lit pe_str fun _ _ => .str i
theorem q_non {j} : PM X W (.Constant .none j pos) (mLit .non) := q_lit pe_non fun _ _ => .non
theorem q_var (i : Nat) {x : Str} (hN : X.N[i]? = some x := by rfl) (hv : Vis X.env.scope x := by first | exact Or.inl rfl | exact Or.inr (Or.inl rfl) | exact Or.inr (Or.inr rfl)) (hd : (x == ("__debug__" : Str)) = false := by decide)
    (hcd : (x == ("__classdict__" : Str)) = false := by decide) : PM X W (.Name x pos) (mVar i) := ⟨PEimp (pe_var hN hv hd hcd) fun σ H Q ⟨ρ, sg, h, hs, rh, w⟩ => by
  unfold mVar at w
  split at w
  · rename_i d e
    obtain ⟨v, e1, rv⟩ := hs.val i d e
    exact ⟨v, e1, w.okI Le.refl rh rv⟩
  · exact w.elim⟩
theorem q_bin {op : Operator} {r : R2} {f : D → D → Mh → R D} (ho : OpR X (binaryOp op) r) (s : Sem2 X r f) (ha : PM X W a ma) (hb : PM X W b mb) : PM X W (.BinOp a op b pos) (m2 f ma mb) := ⟨PEimp (pe_op ho ha.pe hb.pe) fun _ _ _ w => tOp_of s w⟩
theorem q_cmp {op : CmpOp} {r : R2} {f : D → D → Mh → R D} (ho : OpR X (compareOp op) r) (s : Sem2 X r f) (ha : PM X W a ma) (hb : PM X W b mb) (hm : behindInMarks op b = false) : PM X W (.Compare a [op] [b] pos) (m2 f ma mb) :=
  ⟨PEimp (pe_cmpR ho ha.pe hb.pe hm) fun _ _ _ w => tOp_of s w⟩
theorem q_ix {r : R2} {f : D → D → Mh → R D} (ho : IxR X r) (s : Sem2 X r f) (ha : PM X W a ma) (hb : PM X W b mb) (hp : PlainIx b) : PM X W (.Subscript a b pos) (m2 f ma mb) := ⟨PEimp (pe_ix ho ha.pe hb.pe hp) fun _ _ _ w => tOp_of s w⟩
theorem q_un {op : UnaryOp} {r : V → Hp → VK → Prop} {f : D → Mh → R D} (ho : UnR X (unaryOp op) r) (s : Sem1 X r f) (ha : PM X W a ma) : PM X W (.UnaryOp op a pos) (m1 f ma) := ⟨PEimp (pe_un ho ha.pe) fun σ H Q ⟨ρ, sg, h, hs, rh, w⟩ =>
  TM.go hs rh w fun ρ1 H1 h1 v d le rh1 rv w1 => s W σ ρ1 H1 h1 Q v d rh1 rv w1⟩
/-! tests -/
def mTest (m : Sg → Mh → R D) : Sg → Mh → R Bool := fun sg h => (m sg h).bind fun d h1 => match d with
  | .bl b => .ok b h1
  | _ => .bad
theorem tTest_of {m : Sg → Mh → R D} {t : TE} (i : ∀ σ H Q, TM X.K X.mg W m σ H Q → t σ H Q) {σ : L2.St} {H : Hp} {Q : Bool → Hp → Prop} (w : TMb X.K X.mg W (mTest m) σ H Q) : tTest t σ H Q := by
  obtain ⟨ρ, sg, h, hs, rh, w⟩ := w
  refine i _ _ _ (TM.go hs rh w fun ρ1 H1 h1 v d le rh1 rv w1 => ?_)
  cases rv <;> first | exact w1.elim | skip
  exact ⟨_, rfl, w1.okI Le.refl rh1 rfl⟩
theorem q_cmpT {op : CmpOp} {r : R2} {f : D → D → Mh → R D} (ho : OpR X (compareOp op) r) (s : Sem2 X r f) (ha : PM X W a ma) (hb : PM X W b mb) (hm : behindInMarks op b = false) : PB X W (.Compare a [op] [b] pos) (mTest (m2 f ma mb)) :=
  ⟨PTimp (pt_cmpR ho ha.pe hb.pe hm) fun _ _ _ w => tTest_of (fun _ _ _ w => tOp_of s w) w⟩
/-- the truth of a value -/
def dTru : D → Mh → R Bool
  | .non, h => .ok false h
  | .bl b, h => .ok b h
  | .int i, h => .ok (i != 0) h
  | .str x, h => if x.length ≤ sizeLine then .ok (x.length != 0) h else .bad
  | .tup ds, h => .ok (!ds.isEmpty) h
  | .ref n, h => match h[n]? with
    | some (.lst ds) => .ok (!ds.isEmpty) h
    | some (.dk kvs) => .ok (!kvs.isEmpty) h
    | _ => .bad
  | _, _ => .bad
end
end Mo

namespace Mo
open PySem PySem.Spec PyProof.Rows L2
section
variable {X : Cx}
/-! ### operators -/
def dAdd : D → D → Mh → R D
  | .int i, .int j, h => .ok (.int (i + j)) h
  | .str a, .str b, h => if a.length + b.length ≤ sizeLine then .ok (.str (a ++ b)) h else .bad
  | .tup a, .tup b, h => if a.length + b.length ≤ sizeLine ∧ a ≠ [] then .ok (.tup (a ++ b)) h else .bad
  | .ref n, .ref m, h => match h[n]?, h[m]? with
    | some (.lst a), some (.lst b) => if a.length + b.length ≤ sizeLine then .ok (.ref h.length) (h ++ [.lst (a ++ b)]) else .bad
    | _, _ => .bad
  | _, _, _ => .bad
theorem RHp.at {K mg ρ H h} (rh : RHp K mg ρ H h) {n : Nat} {a : Addr} {o : MO} (e : ρ[n]? = some a) (x : h[n]? = some o) : RO K mg ρ H a o := rh.obj n a o e x
theorem sem_add : Sem2 X (fun x y H Q => rI0 (fun i j => .int (i + j)) x y H Q ∨ (∃ i j, x = V.str i ∧ y = V.str j ∧ i.length + j.length ≤ sizeLine ∧ Q (V.str (i ++ j)) H) ∨ rCatT X.K x y H Q ∨ rCat x y H Q) dAdd := by
  intro W σ ρ H h Q v1 v2 d1 d2 rh r1 r2 w
  unfold dAdd at w
  split at w
  · cases r1; cases r2; exact .inl ⟨_, _, rfl, rfl, w.okI Le.refl rh (.int _)⟩
  · split at w
    · rename_i hz
      cases r1; cases r2; exact .inr (.inl ⟨_, _, rfl, rfl, hz, w.okI Le.refl rh (.str _)⟩)
    · exact w.elim
  · split at w
    · rename_i hz
      cases r1 with
      | tup t1 q1 =>
        cases r2 with
        | tup t2 q2 =>
          have l1 := q1.length
          have l2 := q2.length
          refine .inr (.inr (.inl ⟨_, _, _, _, rfl, rfl, t1, t2, fun e => ?_, by omega, fun e => ?_, fun e p hp => w.tuple rh hp (q1.append q2)⟩))
          · subst e; cases q1; exact hz.2 rfl
          · subst e; cases q2
            rw [List.append_nil] at w
            exact w.okI Le.refl rh (.tup t1 q1)
    · exact w.elim
  · split at w
    · split at w
      · rename_i e1 e2 hz
        cases r1 with
        | ref r1 =>
          cases r2 with
          | ref r2 =>
            cases rh.at r1 e1 with
            | lst h1 q1 =>
              cases rh.at r2 e2 with
              | lst h2 q2 =>
                have l1 := q1.length
                have l2 := q2.length
                exact .inr (.inr (.inr ⟨_, _, _, _, rfl, rfl, h1, h2, by omega, fun p hp => w.alloc rh hp (RO.newList hp (q1.append q2))⟩))
      · exact w.elim
    · exact w.elim
  · exact w.elim
theorem op_add4 : OpR X (binaryOp .Add) (fun x y H Q => rI0 (fun i j => .int (i + j)) x y H Q ∨ (∃ i j, x = V.str i ∧ y = V.str j ∧ i.length + j.length ≤ sizeLine ∧ Q (V.str (i ++ j)) H) ∨ rCatT X.K x y H Q ∨ rCat x y H Q) := OpRor op_add (OpRor op_add_str (OpRor op_catT op_cat))
/-- two ints under a condition -/
def dII (c : Int → Int → Bool) (g : Int → Int → D) : D → D → Mh → R D
  | .int i, .int j, h => if c i j = true then .ok (g i j) h else .bad
  | _, _, _ => .bad
theorem sem_II {C : Int → Int → Prop} {c : Int → Int → Bool} {f : Int → Int → V} {g : Int → Int → D} (hc : ∀ i j, c i j = true → C i j) (hg : ∀ i j ρ H, RV X.K X.mg ρ H (f i j) (g i j)) : Sem2 X (rI C f) (dII c g) := by
  intro W σ ρ H h Q v1 v2 d1 d2 rh r1 r2 w
  unfold dII at w
  split at w
  · split at w
    · rename_i hz
      cases r1; cases r2; exact ⟨_, _, rfl, rfl, hc _ _ hz, w.okI Le.refl rh (hg _ _ _ _)⟩
    · exact w.elim
  · exact w.elim
/-- two ints -/
def dI0 (g : Int → Int → D) : D → D → Mh → R D
  | .int i, .int j, h => .ok (g i j) h
  | _, _, _ => .bad
theorem sem_I0 {f : Int → Int → V} {g : Int → Int → D} (hg : ∀ i j ρ H, RV X.K X.mg ρ H (f i j) (g i j)) : Sem2 X (rI0 f) (dI0 g) := by
  intro W σ ρ H h Q v1 v2 d1 d2 rh r1 r2 w
  unfold dI0 at w
  split at w
  · cases r1; cases r2; exact ⟨_, _, rfl, rfl, w.okI Le.refl rh (hg _ _ _ _)⟩
  · exact w.elim
def dSub := dI0 fun i j => .int (i - j)
def dBand := dI0 fun i j => .int (Builtin.bitAnd i j)
def dBor := dI0 fun i j => .int (Builtin.bitOr i j)
def dBxor := dI0 fun i j => .int (Builtin.bitXor i j)
def cMul (i j : Int) : Bool := decide ((-(2 ^ 64) < i ∧ i < 2 ^ 64) ∨ (-(2 ^ 64) < j ∧ j < 2 ^ 64))
theorem cMul_ok {i j : Int} (h : cMul i j = true) : CMul i j := by
  have := of_decide_eq_true h
  exact this
def dFdiv := dII (fun _ j => decide (0 < j ∧ j < 1073741824)) fun i j => .int (i / j)
def dMod := dII (fun _ j => decide (0 < j)) fun i j => .int (i % j)
def cPow (i j : Int) : Bool := decide (0 ≤ j ∧ j ≤ 1000000 ∧ i.natAbs < 2 ^ 64)
theorem cPow_ok {i j : Int} (h : cPow i j = true) : CPow i j := by
  have := of_decide_eq_true h
  exact this
def dPow := dII cPow fun i j => .int (i ^ j.toNat)
def dShl := dII cPow fun i j => .int (i * 2 ^ j.toNat)
def dShr := dII (fun _ j => decide (0 ≤ j)) fun i j => .int (i / 2 ^ j.toNat)
def dMul : D → D → Mh → R D
  | .int i, .int j, h => if cMul i j = true then .ok (.int (i * j)) h else .bad
  | .ref n, .int k, h => match h[n]? with
    | some (.lst a) => if -(2 ^ 63) ≤ k ∧ k < 2 ^ 63 ∧ a.length * k.toNat ≤ sizeLine then .ok (.ref h.length) (h ++ [.lst (List.replicate k.toNat a).flatten]) else .bad
    | _ => .bad
  | _, _, _ => .bad
theorem RVs.rep {K mg ρ H} {vs : List V} {ds : List D} (r : RVs K mg ρ H vs ds) : ∀ n : Nat, RVs K mg ρ H (List.replicate n vs).flatten (List.replicate n ds).flatten
  | 0 => .nil
  | n + 1 => by
    rw [List.replicate_succ, List.replicate_succ, List.flatten_cons, List.flatten_cons]
    exact r.append (RVs.rep r n)
theorem sem_mul : Sem2 X (fun x y H Q => rI CMul (fun i j => .int (i * j)) x y H Q ∨ rRep x y H Q) dMul := by
  intro W σ ρ H h Q v1 v2 d1 d2 rh r1 r2 w
  unfold dMul at w
  split at w
  · split at w
    · rename_i hz
      cases r1; cases r2; exact .inl ⟨_, _, rfl, rfl, cMul_ok hz, w.okI Le.refl rh (.int _)⟩
    · exact w.elim
  · split at w
    · split at w
      · rename_i e1 hz
        cases r1 with
        | ref r1 =>
          cases r2
          cases rh.at r1 e1 with
          | lst h1 q1 =>
            have l1 := q1.length
            exact .inr ⟨_, _, _, rfl, rfl, h1, hz.1, hz.2.1, by rw [l1]; exact hz.2.2, fun p hp => w.alloc rh hp (RO.newList hp (q1.rep _))⟩
      · exact w.elim
    · exact w.elim
  · exact w.elim
theorem op_mul2 : OpR X (binaryOp .Mult) (fun x y H Q => rI CMul (fun i j => .int (i * j)) x y H Q ∨ rRep x y H Q) := OpRor op_mul op_rep
section
variable {W : WX} {a b : Expr} {ma mb : Sg → Mh → R D} {pos : Pos}
theorem q_add (ha : PM X W a ma) (hb : PM X W b mb) : PM X W (.BinOp a .Add b pos) (m2 dAdd ma mb) := q_bin op_add4 sem_add ha hb
theorem q_sub (ha : PM X W a ma) (hb : PM X W b mb) : PM X W (.BinOp a .Sub b pos) (m2 dSub ma mb) := q_bin op_sub (sem_I0 fun _ _ _ _ => .int _) ha hb
theorem q_mul (ha : PM X W a ma) (hb : PM X W b mb) : PM X W (.BinOp a .Mult b pos) (m2 dMul ma mb) := q_bin op_mul2 sem_mul ha hb
theorem q_fdiv (ha : PM X W a ma) (hb : PM X W b mb) : PM X W (.BinOp a .FloorDiv b pos) (m2 dFdiv ma mb) := q_bin op_fdiv (sem_II (fun _ _ h => by have := of_decide_eq_true h; exact this) fun _ _ _ _ => .int _) ha hb
theorem q_mod (ha : PM X W a ma) (hb : PM X W b mb) : PM X W (.BinOp a .Mod b pos) (m2 dMod ma mb) := q_bin op_mod (sem_II (fun _ _ h => of_decide_eq_true h) fun _ _ _ _ => .int _) ha hb
theorem q_pow (ha : PM X W a ma) (hb : PM X W b mb) : PM X W (.BinOp a .Pow b pos) (m2 dPow ma mb) := q_bin op_pow (sem_II (fun _ _ h => cPow_ok h) fun _ _ _ _ => .int _) ha hb
theorem q_shl (ha : PM X W a ma) (hb : PM X W b mb) : PM X W (.BinOp a .LShift b pos) (m2 dShl ma mb) := q_bin op_shl (sem_II (fun _ _ h => cPow_ok h) fun _ _ _ _ => .int _) ha hb
theorem q_shr (ha : PM X W a ma) (hb : PM X W b mb) : PM X W (.BinOp a .RShift b pos) (m2 dShr ma mb) := q_bin op_shr (sem_II (fun _ _ h => of_decide_eq_true h) fun _ _ _ _ => .int _) ha hb
theorem q_band (ha : PM X W a ma) (hb : PM X W b mb) : PM X W (.BinOp a .BitAnd b pos) (m2 dBand ma mb) := q_bin op_and (sem_I0 fun _ _ _ _ => .int _) ha hb
theorem q_bor (ha : PM X W a ma) (hb : PM X W b mb) : PM X W (.BinOp a .BitOr b pos) (m2 dBor ma mb) := q_bin op_or (sem_I0 fun _ _ _ _ => .int _) ha hb
theorem q_bxor (ha : PM X W a ma) (hb : PM X W b mb) : PM X W (.BinOp a .BitXor b pos) (m2 dBxor ma mb) := q_bin op_xor (sem_I0 fun _ _ _ _ => .int _) ha hb
end
def dNeg : D → Mh → R D
  | .int i, h => .ok (.int (-i)) h
  | _, _ => .bad
theorem sem_neg : Sem1 X (rU fun i => .int (-i)) dNeg := by
  intro W σ ρ H h Q v d rh r w
  unfold dNeg at w
  split at w
  · cases r; exact ⟨_, rfl, w.okI Le.refl rh (.int _)⟩
  · exact w.elim
theorem q_neg {W : WX} {a : Expr} {ma : Sg → Mh → R D} {pos : Pos} (ha : PM X W a ma) : PM X W (.UnaryOp .USub a pos) (m1 dNeg ma) := q_un un_neg sem_neg ha

/-! ### comparisons -/
def pdl (f : D → Option PyData) : List D → Option (List PyData)
  | [] => some []
  | d :: ds => match f d, pdl f ds with
    | some a, some b => some (a :: b)
    | _, _ => none
def pd : Nat → Mh → D → Option PyData
  | 0, _, _ => none
  | n + 1, h, d => match d with
    | .non => some .none
    | .bl b => some (.bool b)
    | .int i => some (.int i)
    | .str x => some (.str x)
    | .tup ds => (pdl (pd n h) ds).map .tuple
    | .ref m => match h[m]? with
      | some (.lst ds) => (pdl (pd n h) ds).map .list
      | some (.fls ds) => (pdl (pd n h) ds).map .list
      | _ => none
    | _ => none
theorem pdl_dp {K mg ρ H} {f : D → Option PyData} (hf : ∀ v d p, RV K mg ρ H v d → f d = some p → Dp K H v p) : ∀ {vs : List V} {ds : List D} {ps : List PyData}, RVs K mg ρ H vs ds → pdl f ds = some ps → DpAll K H vs ps
  | _, _, _, .nil, e => by cases e; exact .nil
  | _, _, _, .cons r t, e => by
    unfold pdl at e
    split at e
    · rename_i e1 e2
      cases e
      exact .cons (hf _ _ _ r e1) (pdl_dp hf t e2)
    · cases e
theorem pd_dp {K mg ρ H h} (rh : RHp K mg ρ H h) : ∀ (n : Nat) (v : V) (d : D) (p : PyData), RV K mg ρ H v d → pd n h d = some p → Dp K H v p
  | 0, _, _, _, _, e => by cases e
  | n + 1, v, d, p, r, e => by
    have ih := pd_dp rh n
    cases r with
    | non => cases e; exact .non
    | bl b => cases e; exact .bl b
    | int i => cases e; exact .int i
    | str x => cases e; exact .str x
    | ty x => cases e
    | glo x => cases e
    | tup t q =>
      simp only [pd, Option.map_eq_some_iff] at e
      obtain ⟨ps, e, rfl⟩ := e
      exact .tup t (pdl_dp ih q e)
    | ref r =>
      simp only [pd] at e
      split at e
      · rename_i ds e1
        simp only [Option.map_eq_some_iff] at e
        obtain ⟨ps, e, rfl⟩ := e
        cases rh.at r e1 with
        | lst h1 q1 => exact .lst (SqL.of h1) (pdl_dp ih q1 e)
      · rename_i ds e1
        simp only [Option.map_eq_some_iff] at e
        obtain ⟨ps, e, rfl⟩ := e
        cases rh.at r e1 with
        | fls h1 q1 => exact .lst h1.sq (pdl_dp ih q1 e)
      · cases e
def dEqB (neg : Bool) (x y : D) (h : Mh) : R D := match pd 66 h x, pd 66 h y with
  | some a, some b => if SeqAt.shaped a = true ∧ SeqAt.shaped b = true then .ok (.bl (if neg then !PyData.eqv a b else PyData.eqv a b)) h else .bad
  | _, _ => .bad
def dEq := dEqB false
def dNe := dEqB true
theorem sem_eq : Sem2 X (rEqD X.K) dEq := by
  intro W σ ρ H h Q v1 v2 d1 d2 rh r1 r2 w
  unfold dEq dEqB at w
  split at w
  · split at w
    · rename_i e1 e2 hz
      exact ⟨_, _, pd_dp rh _ _ _ _ r1 e1, pd_dp rh _ _ _ _ r2 e2, hz.1, hz.2, w.okI Le.refl rh (.bl _)⟩
    · exact w.elim
  · exact w.elim
theorem sem_ne : Sem2 X (rNeD X.K) dNe := by
  intro W σ ρ H h Q v1 v2 d1 d2 rh r1 r2 w
  unfold dNe dEqB at w
  split at w
  · split at w
    · rename_i e1 e2 hz
      exact ⟨_, _, pd_dp rh _ _ _ _ r1 e1, pd_dp rh _ _ _ _ r2 e2, hz.1, hz.2, w.okI Le.refl rh (.bl _)⟩
    · exact w.elim
  · exact w.elim
/-- is None -/
def dIs : D → D → Mh → R D
  | x, .non, h => .ok (.bl (match x with | .non => true | _ => false)) h
  | _, _, _ => .bad
def dIsNot : D → D → Mh → R D
  | x, .non, h => .ok (.bl (match x with | .non => false | _ => true)) h
  | _, _, _ => .bad
theorem sem_is : Sem2 X (fun x y H Q => y = V.non ∧ Q (V.bl (decide (x = V.non))) H) dIs := by
  intro W σ ρ H h Q v1 v2 d1 d2 rh r1 r2 w
  unfold dIs at w
  split at w
  · cases r2
    refine ⟨rfl, w.okI Le.refl rh ?_⟩
    cases r1 <;> exact .bl _
  · exact w.elim
theorem sem_isNot : Sem2 X (fun x y H Q => y = V.non ∧ Q (V.bl (!decide (x = V.non))) H) dIsNot := by
  intro W σ ρ H h Q v1 v2 d1 d2 rh r1 r2 w
  unfold dIsNot at w
  split at w
  · cases r2
    refine ⟨rfl, w.okI Le.refl rh ?_⟩
    cases r1 <;> exact .bl _
  · exact w.elim
/-- < and its kin: ints, texts -/
def dLt : D → D → Mh → R D
  | .int i, .int j, h => .ok (.bl (decide (i < j))) h
  | .str a, .str b, h => .ok (.bl (decide (a.cps.toList < b.cps.toList))) h
  | _, _, _ => .bad
def dLe : D → D → Mh → R D
  | .int i, .int j, h => .ok (.bl (decide (i ≤ j))) h
  | .str a, .str b, h => .ok (.bl (!decide (b.cps.toList < a.cps.toList))) h
  | _, _, _ => .bad
def dGt : D → D → Mh → R D
  | .int i, .int j, h => .ok (.bl (decide (j < i))) h
  | .str a, .str b, h => .ok (.bl (decide (b.cps.toList < a.cps.toList))) h
  | _, _, _ => .bad
def dGe : D → D → Mh → R D
  | .int i, .int j, h => .ok (.bl (decide (j ≤ i))) h
  | .str a, .str b, h => .ok (.bl (!decide (a.cps.toList < b.cps.toList))) h
  | _, _, _ => .bad
end
end Mo

namespace Mo
open PySem PySem.Spec PyProof.Rows L2
section
variable {X : Cx}
/-! ### comparisons, further -/
theorem sem_lt : Sem2 X (fun x y H Q => rI0 (fun i j => .bl (decide (i < j))) x y H Q ∨ ∃ i j, x = V.str i ∧ y = V.str j ∧ Q (V.bl (decide (i.cps.toList < j.cps.toList))) H) dLt := by
  intro W σ ρ H h Q v1 v2 d1 d2 rh r1 r2 w
  unfold dLt at w
  split at w
  · cases r1; cases r2; exact .inl ⟨_, _, rfl, rfl, w.okI Le.refl rh (.bl _)⟩
  · cases r1; cases r2; exact .inr ⟨_, _, rfl, rfl, w.okI Le.refl rh (.bl _)⟩
  · exact w.elim
theorem sem_le : Sem2 X (fun x y H Q => rI0 (fun i j => .bl (decide (i ≤ j))) x y H Q ∨ ∃ i j, x = V.str i ∧ y = V.str j ∧ Q (V.bl (!decide (j.cps.toList < i.cps.toList))) H) dLe := by
  intro W σ ρ H h Q v1 v2 d1 d2 rh r1 r2 w
  unfold dLe at w
  split at w
  · cases r1; cases r2; exact .inl ⟨_, _, rfl, rfl, w.okI Le.refl rh (.bl _)⟩
  · cases r1; cases r2; exact .inr ⟨_, _, rfl, rfl, w.okI Le.refl rh (.bl _)⟩
  · exact w.elim
theorem sem_gt : Sem2 X (fun x y H Q => rI0 (fun i j => .bl (decide (j < i))) x y H Q ∨ ∃ i j, x = V.str i ∧ y = V.str j ∧ Q (V.bl (decide (j.cps.toList < i.cps.toList))) H) dGt := by
  intro W σ ρ H h Q v1 v2 d1 d2 rh r1 r2 w
  unfold dGt at w
  split at w
  · cases r1; cases r2; exact .inl ⟨_, _, rfl, rfl, w.okI Le.refl rh (.bl _)⟩
  · cases r1; cases r2; exact .inr ⟨_, _, rfl, rfl, w.okI Le.refl rh (.bl _)⟩
  · exact w.elim
theorem sem_ge : Sem2 X (fun x y H Q => rI0 (fun i j => .bl (decide (j ≤ i))) x y H Q ∨ ∃ i j, x = V.str i ∧ y = V.str j ∧ Q (V.bl (!decide (i.cps.toList < j.cps.toList))) H) dGe := by
  intro W σ ρ H h Q v1 v2 d1 d2 rh r1 r2 w
  unfold dGe at w
  split at w
  · cases r1; cases r2; exact .inl ⟨_, _, rfl, rfl, w.okI Le.refl rh (.bl _)⟩
  · cases r1; cases r2; exact .inr ⟨_, _, rfl, rfl, w.okI Le.refl rh (.bl _)⟩
  · exact w.elim
theorem op_lt2 : OpR X (compareOp .Lt) (fun x y H Q => rI0 (fun i j => .bl (decide (i < j))) x y H Q ∨ ∃ i j, x = V.str i ∧ y = V.str j ∧ Q (V.bl (decide (i.cps.toList < j.cps.toList))) H) := OpRor op_lt op_lt_str
theorem op_le2 : OpR X (compareOp .LtE) (fun x y H Q => rI0 (fun i j => .bl (decide (i ≤ j))) x y H Q ∨ ∃ i j, x = V.str i ∧ y = V.str j ∧ Q (V.bl (!decide (j.cps.toList < i.cps.toList))) H) := OpRor op_le op_le_str
theorem op_gt2 : OpR X (compareOp .Gt) (fun x y H Q => rI0 (fun i j => .bl (decide (j < i))) x y H Q ∨ ∃ i j, x = V.str i ∧ y = V.str j ∧ Q (V.bl (decide (j.cps.toList < i.cps.toList))) H) := OpRor op_gt op_gt_str
theorem op_ge2 : OpR X (compareOp .GtE) (fun x y H Q => rI0 (fun i j => .bl (decide (j ≤ i))) x y H Q ∨ ∃ i j, x = V.str i ∧ y = V.str j ∧ Q (V.bl (!decide (i.cps.toList < j.cps.toList))) H) := OpRor op_ge op_ge_str
/-- == : texts and small things at once, else as data -/
def scD : D → D → Option Bool
  | .str a, .str b => some (decide (a = b))
  | .int a, .int b => some (decide (a = b))
  | .bl a, .bl b => some (decide (a = b))
  | .non, .non => some true
  | .non, .str _ => some false
  | .str _, .non => some false
  | .non, .int _ => some false
  | .int _, .non => some false
  | .int _, .str _ => some false
  | .str _, .int _ => some false
  | _, _ => none
def dE (neg : Bool) (x y : D) (h : Mh) : R D := match scD x y with
  | some b => .ok (.bl (if neg then !b else b)) h
  | none => dEqB neg x y h
theorem sc_of {K mg ρ H} {v1 v2 : V} {d1 d2 : D} {b : Bool} (r1 : RV K mg ρ H v1 d1) (r2 : RV K mg ρ H v2 d2) (e : scD d1 d2 = some b) : scal v1 v2 = true ∧ decide (v1 = v2) = b := by
  cases r1 <;> cases r2 <;> first
    | (cases e; done)
    | (cases e; exact ⟨rfl, by simp⟩)
theorem sem_E (neg : Bool) : Sem2 X (fun x y H Q => (scal x y = true ∧ Q (.bl (if neg then !decide (x = y) else decide (x = y))) H) ∨ (if neg then rNeD X.K x y H Q else rEqD X.K x y H Q)) (dE neg) := by
  intro W σ ρ H h Q v1 v2 d1 d2 rh r1 r2 w
  unfold dE at w
  split at w
  · rename_i b e
    obtain ⟨s1, s2⟩ := sc_of r1 r2 e
    refine .inl ⟨s1, ?_⟩
    rw [s2]
    exact w.okI Le.refl rh (.bl _)
  · cases neg with
    | true => exact .inr (sem_ne W σ ρ H h Q v1 v2 d1 d2 rh r1 r2 w)
    | false => exact .inr (sem_eq W σ ρ H h Q v1 v2 d1 d2 rh r1 r2 w)
theorem op_E (hu : X.A.units + 64 < cLine) : OpR X (compareOp .Eq) (fun x y H Q => (scal x y = true ∧ Q (.bl (if false then !decide (x = y) else decide (x = y))) H) ∨ (if false then rNeD X.K x y H Q else rEqD X.K x y H Q)) := OpRor op_eq (op_eqD hu)
theorem op_NE (hu : X.A.units + 64 < cLine) : OpR X (compareOp .NotEq) (fun x y H Q => (scal x y = true ∧ Q (.bl (if true then !decide (x = y) else decide (x = y))) H) ∨ (if true then rNeD X.K x y H Q else rEqD X.K x y H Q)) := OpRor op_ne (op_neD hu)
/-- in, not in: a sign in a text; among flat items -/
def flatD : D → Bool
  | .non => true
  | .bl _ => true
  | .int _ => true
  | .str _ => true
  | _ => false
def eqF : D → D → Bool
  | .non, .non => true
  | .bl a, .bl b => a == b
  | .bl a, .int b => (if a then 1 else 0) == b
  | .int a, .bl b => a == (if b then 1 else 0)
  | .int a, .int b => a == b
  | .str a, .str b => a == b
  | _, _ => false
theorem flat_of {K mg ρ H} {v : V} {d : D} (r : RV K mg ρ H v d) (f : flatD d = true) : flatV v = true := by cases r <;> first | rfl | cases f
theorem eqF_of {K mg ρ H} {v v' : V} {d d' : D} (r : RV K mg ρ H v d) (r' : RV K mg ρ H v' d') (f : flatD d = true) (f' : flatD d' = true) : eqV v v' = eqF d d' := by
  cases r <;> first
    | (cases f; done)
    | (cases r' <;> first | rfl | (cases f'; done))
theorem allF_of {K mg ρ H} : ∀ {vs : List V} {ds : List D}, RVs K mg ρ H vs ds → ds.all flatD = true → vs.all flatV = true
  | _, _, .nil, _ => rfl
  | _, _, .cons r t, f => by
    rw [List.all_cons, Bool.and_eq_true] at f ⊢
    exact ⟨flat_of r f.1, allF_of t f.2⟩
theorem inF_of {K mg ρ H} {v : V} {d : D} (r : RV K mg ρ H v d) (f : flatD d = true) : ∀ {vs : List V} {ds : List D}, RVs K mg ρ H vs ds → ds.all flatD = true → inV v vs = ds.any fun y => eqF y d
  | _, _, .nil, _ => rfl
  | _, _, .cons q t, g => by
    rw [List.all_cons, Bool.and_eq_true] at g
    have ih := inF_of r f t g.2
    unfold inV at ih ⊢
    rw [List.any_cons, List.any_cons, ih, eqF_of q r g.1 f]
def keyD : D → Option Key
  | .int i => some (.inl i)
  | .str x => some (.inr x)
  | _ => none
def dIn (neg : Bool) (x y : D) (h : Mh) : R D := match x, y with
  | .str a, .str b => match a.cps.toList with
    | [c] => .ok (.bl (if neg then !decide (c ∈ b.cps.toList) else decide (c ∈ b.cps.toList))) h
    | _ => .ok (.bl (if neg then !(!(Builtin.Str.occurrences b a 0 b.length 1).isEmpty) else !(Builtin.Str.occurrences b a 0 b.length 1).isEmpty)) h
  | x, .tup ds => if flatD x = true ∧ ds.all flatD = true then .ok (.bl (if neg then !(ds.any fun y => eqF y x) else ds.any fun y => eqF y x)) h else .bad
  | x, .ref n => match h[n]? with
    | some (.lst ds) => if flatD x = true ∧ ds.all flatD = true then .ok (.bl (if neg then !(ds.any fun y => eqF y x) else ds.any fun y => eqF y x)) h else .bad
    | _ => .bad
  | _, _ => .bad
theorem one_sign : ∀ (a : Str) (c : Nat), a.cps.toList = [c] → a = ⟨#[c]⟩
  | ⟨cps⟩, c, e => by rw [show cps = #[c] from Array.toList_inj.mp e]
def rIn3 (K : PySem.W.Frag) (neg : Bool) : R2 := fun x y H Q => rIn K neg x y H Q ∨ (∃ (c : Nat) (z : Str), x = .str ⟨#[c]⟩ ∧ y = .str z ∧ Q (.bl (if neg then !decide (c ∈ z.cps.toList) else decide (c ∈ z.cps.toList))) H) ∨
  ∃ i j, x = V.str i ∧ y = V.str j ∧ Q (V.bl (if neg then !(!(Builtin.Str.occurrences j i 0 j.length 1).isEmpty) else !(Builtin.Str.occurrences j i 0 j.length 1).isEmpty)) H
theorem sem_in (neg : Bool) : Sem2 X (rIn3 X.K neg) (dIn neg) := by
  intro W σ ρ H h Q v1 v2 d1 d2 rh r1 r2 w
  unfold dIn at w
  split at w
  · split at w
    · rename_i c e
      cases r1; cases r2
      exact .inr (.inl ⟨c, _, congrArg V.str (one_sign _ _ e), rfl, w.okI Le.refl rh (.bl _)⟩)
    · cases r1; cases r2
      exact .inr (.inr ⟨_, _, rfl, rfl, w.okI Le.refl rh (.bl _)⟩)
  · split at w
    · rename_i hz
      cases r2 with
      | tup t q =>
        refine .inl ⟨_, _, rfl, .inr t, flat_of r1 hz.1, allF_of q hz.2, ?_⟩
        rw [inF_of r1 hz.1 q hz.2]
        exact w.okI Le.refl rh (.bl _)
    · exact w.elim
  · split at w
    · split at w
      · rename_i e hz
        cases r2 with
        | ref r2 =>
          cases rh.at r2 e with
          | lst h1 q =>
            refine .inl ⟨_, _, rfl, .inl (SqL.of h1), flat_of r1 hz.1, allF_of q hz.2, ?_⟩
            rw [inF_of r1 hz.1 q hz.2]
            exact w.okI Le.refl rh (.bl _)
      · exact w.elim
    · exact w.elim
  · exact w.elim
theorem op_in3 : OpR X (compareOp .In) (rIn3 X.K false) := OpRor op_in_seq (OpRor op_in_sign op_in_str)
theorem op_notIn3 : OpR X (compareOp .NotIn) (rIn3 X.K true) := OpRor op_notIn_seq (OpRor op_notIn_sign op_notIn_str)
section
variable {W : WX} {a b c : Expr} {ma mb mc : Sg → Mh → R D} {pos : Pos}
theorem q_lt (ha : PM X W a ma) (hb : PM X W b mb) : PM X W (.Compare a [.Lt] [b] pos) (m2 dLt ma mb) := q_cmp op_lt2 sem_lt ha hb (nomark _)
theorem q_le (ha : PM X W a ma) (hb : PM X W b mb) : PM X W (.Compare a [.LtE] [b] pos) (m2 dLe ma mb) := q_cmp op_le2 sem_le ha hb (nomark _)
theorem q_gt (ha : PM X W a ma) (hb : PM X W b mb) : PM X W (.Compare a [.Gt] [b] pos) (m2 dGt ma mb) := q_cmp op_gt2 sem_gt ha hb (nomark _)
theorem q_ge (ha : PM X W a ma) (hb : PM X W b mb) : PM X W (.Compare a [.GtE] [b] pos) (m2 dGe ma mb) := q_cmp op_ge2 sem_ge ha hb (nomark _)
theorem q_eq (hu : X.A.units + 64 < cLine) (ha : PM X W a ma) (hb : PM X W b mb) : PM X W (.Compare a [.Eq] [b] pos) (m2 (dE false) ma mb) := q_cmp (op_E hu) (sem_E false) ha hb (nomark _)
theorem q_ne (hu : X.A.units + 64 < cLine) (ha : PM X W a ma) (hb : PM X W b mb) : PM X W (.Compare a [.NotEq] [b] pos) (m2 (dE true) ma mb) := q_cmp (op_NE hu) (sem_E true) ha hb (nomark _)
theorem q_is (ha : PM X W a ma) (hb : PM X W b mb) : PM X W (.Compare a [.Is] [b] pos) (m2 dIs ma mb) := q_cmp op_isN sem_is ha hb (nomark _)
theorem q_isnot (ha : PM X W a ma) (hb : PM X W b mb) : PM X W (.Compare a [.IsNot] [b] pos) (m2 dIsNot ma mb) := q_cmp op_notN sem_isNot ha hb (nomark _)
theorem q_in (ha : PM X W a ma) (hb : PM X W b mb) (hm : behindInMarks .In b = false := by with_unfolding_all rfl) : PM X W (.Compare a [.In] [b] pos) (m2 (dIn false) ma mb) := q_cmp op_in3 (sem_in false) ha hb hm
theorem q_notin (ha : PM X W a ma) (hb : PM X W b mb) (hm : behindInMarks .NotIn b = false := by with_unfolding_all rfl) : PM X W (.Compare a [.NotIn] [b] pos) (m2 (dIn true) ma mb) := q_cmp op_notIn3 (sem_in true) ha hb hm
theorem t_lt (ha : PM X W a ma) (hb : PM X W b mb) : PB X W (.Compare a [.Lt] [b] pos) (mTest (m2 dLt ma mb)) := q_cmpT op_lt2 sem_lt ha hb (nomark _)
theorem t_le (ha : PM X W a ma) (hb : PM X W b mb) : PB X W (.Compare a [.LtE] [b] pos) (mTest (m2 dLe ma mb)) := q_cmpT op_le2 sem_le ha hb (nomark _)
theorem t_gt (ha : PM X W a ma) (hb : PM X W b mb) : PB X W (.Compare a [.Gt] [b] pos) (mTest (m2 dGt ma mb)) := q_cmpT op_gt2 sem_gt ha hb (nomark _)
theorem t_ge (ha : PM X W a ma) (hb : PM X W b mb) : PB X W (.Compare a [.GtE] [b] pos) (mTest (m2 dGe ma mb)) := q_cmpT op_ge2 sem_ge ha hb (nomark _)
theorem t_eq (hu : X.A.units + 64 < cLine) (ha : PM X W a ma) (hb : PM X W b mb) : PB X W (.Compare a [.Eq] [b] pos) (mTest (m2 (dE false) ma mb)) := q_cmpT (op_E hu) (sem_E false) ha hb (nomark _)
theorem t_ne (hu : X.A.units + 64 < cLine) (ha : PM X W a ma) (hb : PM X W b mb) : PB X W (.Compare a [.NotEq] [b] pos) (mTest (m2 (dE true) ma mb)) := q_cmpT (op_NE hu) (sem_E true) ha hb (nomark _)
theorem t_is (ha : PM X W a ma) (hb : PM X W b mb) : PB X W (.Compare a [.Is] [b] pos) (mTest (m2 dIs ma mb)) := q_cmpT op_isN sem_is ha hb (nomark _)
theorem t_isnot (ha : PM X W a ma) (hb : PM X W b mb) : PB X W (.Compare a [.IsNot] [b] pos) (mTest (m2 dIsNot ma mb)) := q_cmpT op_notN sem_isNot ha hb (nomark _)
theorem t_in (ha : PM X W a ma) (hb : PM X W b mb) (hm : behindInMarks .In b = false := by with_unfolding_all rfl) : PB X W (.Compare a [.In] [b] pos) (mTest (m2 (dIn false) ma mb)) := q_cmpT op_in3 (sem_in false) ha hb hm
theorem t_notin (ha : PM X W a ma) (hb : PM X W b mb) (hm : behindInMarks .NotIn b = false := by with_unfolding_all rfl) : PB X W (.Compare a [.NotIn] [b] pos) (mTest (m2 (dIn true) ma mb)) := q_cmpT op_notIn3 (sem_in true) ha hb hm
/-- a op1 b op2 c -/
def mChain (f g : D → D → Mh → R D) (ma mb mc : Sg → Mh → R D) : Sg → Mh → R D := fun sg h => (ma sg h).bind fun x h1 => (mb sg h1).bind fun y h2 => (f x y h2).bind fun z h3 => match z with
  | .bl true => (mc sg h3).bind fun w h4 => g y w h4
  | .bl false => .ok (.bl false) h3
  | _ => .bad
theorem tChain_of {r r' : R2} {f g : D → D → Mh → R D} (s1 : Sem2 X r f) (s2 : Sem2 X r' g) {σ : L2.St} {H : Hp} {Q : VK} (w : TM X.K X.mg W (mChain f g ma mb mc) σ H Q) : tChain r r' (TM X.K X.mg W ma) (TM X.K X.mg W mb) (TM X.K X.mg W mc) σ H Q := by
  obtain ⟨ρ, sg, h, hs, rh, w⟩ := w
  refine TM.go hs rh w fun ρ1 H1 h1 v d le rh1 rv w1 => TM.go (hs.mono le) rh1 w1 fun ρ2 H2 h2 v2 d2 le2 rh2 rv2 w2 => ?_
  refine s1 W σ ρ2 H2 h2 _ v v2 d d2 rh2 (rv.mono le2) rv2 (w2.cut fun ρ3 H3 h3 v3 d3 le3 rh3 rv3 w3 => ?_)
  split at w3
  · cases rv3
    refine ⟨true, rfl, ?_⟩
    rw [if_pos rfl]
    exact TM.go ((hs.mono le).mono (le2.trans le3)) rh3 w3 fun ρ4 H4 h4 v4 d4 le4 rh4 rv4 w4 => s2 W σ ρ4 H4 h4 Q v2 v4 d2 d4 rh4 (rv2.mono (le3.trans le4)) rv4 w4
  · cases rv3
    refine ⟨false, rfl, ?_⟩
    rw [if_neg Bool.false_ne_true]
    exact w3.okI Le.refl rh3 (.bl _)
  · exact w3.elim
theorem q_lele (ha : PM X W a ma) (hb : PM X W b mb) (hc : PM X W c mc) (hm : lastMarks [.LtE, .LtE] [b, c] = false := by with_unfolding_all rfl) : PM X W (.Compare a [.LtE, .LtE] [b, c] pos) (mChain dLe dLe ma mb mc) := ⟨PEimp (pe_chain op_le2 op_le2 ha.pe hb.pe hc.pe hm) fun _ _ _ w => tChain_of sem_le sem_le w⟩
theorem t_lele (ha : PM X W a ma) (hb : PM X W b mb) (hc : PM X W c mc) (hm : lastMarks [.LtE, .LtE] [b, c] = false := by with_unfolding_all rfl) : PB X W (.Compare a [.LtE, .LtE] [b, c] pos) (mTest (mChain dLe dLe ma mb mc)) := ⟨PTimp (pt_chain op_le2 op_le2 ha.pe hb.pe hc.pe hm) fun _ _ _ w => tTest_of (fun _ _ _ w => tChain_of sem_le sem_le w) w⟩
/-! ### and, or, not, if-else -/
theorem dTru_of {K mg ρ H h} {v : V} {d : D} {b : Bool} {h' : Mh} (rh : RHp K mg ρ H h) (r : RV K mg ρ H v d) (e : dTru d h = .ok b h') : h' = h ∧ TruV K v H b := by
  have emp : ∀ {vs : List V} {ds : List D}, RVs K mg ρ H vs ds → ds.isEmpty = vs.isEmpty := fun {vs ds} q => by cases q <;> rfl
  cases r with
  | non => cases e; exact ⟨rfl, rfl⟩
  | bl b => cases e; exact ⟨rfl, rfl⟩
  | int i => cases e; exact ⟨rfl, rfl⟩
  | ty n => cases e
  | glo n => cases e
  | str x =>
    simp only [dTru] at e
    split at e
    · rename_i hz
      cases e
      refine ⟨rfl, hz, ?_⟩
      rw [Bool.eq_iff_iff]
      simp
    · cases e
  | tup t q => cases e; exact ⟨rfl, .inr (.inl ⟨_, t, by rw [emp q]⟩)⟩
  | ref r =>
    simp only [dTru] at e
    split at e
    · rename_i e1
      cases e
      cases rh.at r e1 with
      | lst h1 q => exact ⟨rfl, .inl ⟨_, SqL.of h1, by rw [emp q]⟩⟩
    · rename_i e1
      cases e
      cases rh.at r e1 with
      | dk h1 ke q =>
        refine ⟨rfl, .inr (.inr ⟨_, h1, ?_⟩)⟩
        rename_i kds kvs
        cases kvs with
        | nil => cases kds with
          | nil => rfl
          | cons x y => cases ke
        | cons x y => cases kds with
          | nil => cases ke
          | cons z y => rfl
    · cases e
/-- a value as a test -/
def mTru (m : Sg → Mh → R D) : Sg → Mh → R Bool := fun sg h => (m sg h).bind dTru
theorem tru_bind {K mg} {ρ : Ren} {H : Hp} {h : Mh} {v : V} {d : D} {σ : L2.St} {γ δ : Type} {rel2 : Ren → Hp → δ → γ → Prop} {Q : δ → Hp → Prop} {f : Bool → Mh → R γ} (rh : RHp K mg ρ H h) (r : RV K mg ρ H v d) (w : WG K mg rel2 W σ Q ρ H ((dTru d h).bind f)) :
    ∃ b, TruV K v H b ∧ WG K mg rel2 W σ Q ρ H (f b h) := by
  cases e : dTru d h with
  | ok b h' =>
    obtain ⟨rfl, t⟩ := dTru_of rh r e
    rw [e] at w
    exact ⟨b, t, w⟩
  | bad => rw [e] at w; exact w.elim
  | exc c fs h' =>
    exfalso
    cases d <;> simp only [dTru] at e <;> first
      | (cases e; done)
      | (split at e <;> cases e)
theorem t_val (ha : PM X W a ma) (he : ∀ whole, isTrue a X.env whole = (do let v ← whole; standAt a.pos; holding [v] (truthy v)) := by intro _; rfl) : PB X W a (mTru ma) := ⟨PTimp (pt_truth ha.pe he) fun σ H Q ⟨ρ, sg, h, hs, rh, w⟩ =>
  TM.go hs rh w fun ρ1 H1 h1 v d le rh1 rv w1 => by
    have w1' : WG X.K X.mg (fun _ _ v a => v = a) W σ Q ρ1 H1 ((dTru d h1).bind fun b h => .ok b h) := by
      cases e : dTru d h1 <;> rw [e] at w1 <;> exact w1
    obtain ⟨b, t, w2⟩ := tru_bind rh1 rv w1'
    exact ⟨b, t, w2.okI Le.refl rh1 rfl⟩⟩
structure PBW (X : Cx) (W : WX) (e : Expr) (m : Sg → Mh → R Bool) : Prop where
  pw : PW X e (TMb X.K X.mg W m)
theorem PWimp {X : Cx} {e : Expr} {t t' : TT} (h : PW X e t) (i : ∀ σ H Q, t' σ H Q → t σ H Q) : PW X e t' := ⟨fun wh pins s σ H Q I hw => h.run wh pins s σ H Q I (i _ _ _ hw)⟩
def mAndT (m n : Sg → Mh → R Bool) : Sg → Mh → R Bool := fun sg h => (m sg h).bind fun b h1 => if b = true then n sg h1 else .ok false h1
def mOrT (m n : Sg → Mh → R Bool) : Sg → Mh → R Bool := fun sg h => (m sg h).bind fun b h1 => if b = true then .ok true h1 else n sg h1
variable {rest : List Expr} {na nb : Sg → Mh → R Bool}
theorem tw_and1 (ha : PB X W a na) : PBW X W (.BoolOp .And [a] pos) na := ⟨pw_and1 ha.pt⟩
theorem tw_or1 (ha : PB X W a na) : PBW X W (.BoolOp .Or [a] pos) na := ⟨pw_or1 ha.pt⟩
theorem tw_and (ha : PB X W a na) (hb : PBW X W (.BoolOp .And (b :: rest) pos) nb) : PBW X W (.BoolOp .And (a :: b :: rest) pos) (mAndT na nb) := ⟨PWimp (pw_and ha.pt hb.pw) fun σ H Q ⟨ρ, sg, h, hs, rh, w⟩ =>
  TMb.go hs rh w fun ρ1 H1 h1 b le rh1 w1 => by
    split
    · rename_i hb; rw [if_pos hb] at w1; exact ⟨ρ1, sg, h1, hs.mono le, rh1, w1⟩
    · rename_i hb; rw [if_neg hb] at w1; exact w1.okI Le.refl rh1 rfl⟩
theorem tw_or (ha : PB X W a na) (hb : PBW X W (.BoolOp .Or (b :: rest) pos) nb) : PBW X W (.BoolOp .Or (a :: b :: rest) pos) (mOrT na nb) := ⟨PWimp (pw_or ha.pt hb.pw) fun σ H Q ⟨ρ, sg, h, hs, rh, w⟩ =>
  TMb.go hs rh w fun ρ1 H1 h1 b le rh1 w1 => by
    split
    · rename_i hb; rw [if_pos hb] at w1; exact w1.okI Le.refl rh1 rfl
    · rename_i hb; rw [if_neg hb] at w1; exact ⟨ρ1, sg, h1, hs.mono le, rh1, w1⟩⟩
theorem t_w (h : PBW X W a na) : PB X W a na := ⟨h.pw.pt⟩
def mNotT (m : Sg → Mh → R Bool) : Sg → Mh → R Bool := fun sg h => (m sg h).bind fun b h1 => .ok (!b) h1
theorem t_not (ha : PB X W a na) : PB X W (.UnaryOp .Not a pos) (mNotT na) := ⟨PTimp (pt_not ha.pt) fun σ H Q ⟨ρ, sg, h, hs, rh, w⟩ => TMb.go hs rh w fun ρ1 H1 h1 b le rh1 w1 => w1.okI Le.refl rh1 rfl⟩
/-- as values -/
def mAnd (m n : Sg → Mh → R D) : Sg → Mh → R D := fun sg h => (m sg h).bind fun d h1 => (dTru d h1).bind fun b h2 => if b = true then n sg h2 else .ok d h2
def mOr (m n : Sg → Mh → R D) : Sg → Mh → R D := fun sg h => (m sg h).bind fun d h1 => (dTru d h1).bind fun b h2 => if b = true then .ok d h2 else n sg h2
theorem q_one {op} (ha : PM X W a ma) : PM X W (.BoolOp op [a] pos) ma := ⟨pe_one ha.pe⟩
theorem q_and (ha : PM X W a ma) (hb : PM X W (.BoolOp .And (b :: rest) pos) mb) : PM X W (.BoolOp .And (a :: b :: rest) pos) (mAnd ma mb) := ⟨PEimp (pe_andT ha.pe hb.pe) fun σ H Q ⟨ρ, sg, h, hs, rh, w⟩ =>
  TM.go hs rh w fun ρ1 H1 h1 v d le rh1 rv w1 => by
    obtain ⟨b, t, w2⟩ := tru_bind rh1 rv w1
    refine ⟨b, t, ?_⟩
    split
    · rename_i hb; rw [if_pos hb] at w2; exact ⟨ρ1, sg, h1, hs.mono le, rh1, w2⟩
    · rename_i hb; rw [if_neg hb] at w2; exact w2.okI Le.refl rh1 rv⟩
theorem q_or (ha : PM X W a ma) (hb : PM X W (.BoolOp .Or (b :: rest) pos) mb) : PM X W (.BoolOp .Or (a :: b :: rest) pos) (mOr ma mb) := ⟨PEimp (pe_orT ha.pe hb.pe) fun σ H Q ⟨ρ, sg, h, hs, rh, w⟩ =>
  TM.go hs rh w fun ρ1 H1 h1 v d le rh1 rv w1 => by
    obtain ⟨b, t, w2⟩ := tru_bind rh1 rv w1
    refine ⟨b, t, ?_⟩
    split
    · rename_i hb; rw [if_pos hb] at w2; exact w2.okI Le.refl rh1 rv
    · rename_i hb; rw [if_neg hb] at w2; exact ⟨ρ1, sg, h1, hs.mono le, rh1, w2⟩⟩
def mNot (m : Sg → Mh → R D) : Sg → Mh → R D := fun sg h => (m sg h).bind fun d h1 => (dTru d h1).bind fun b h2 => .ok (.bl (!b)) h2
theorem q_not (ha : PM X W a ma) : PM X W (.UnaryOp .Not a pos) (mNot ma) := ⟨PEimp (pe_notT ha.pe) fun σ H Q ⟨ρ, sg, h, hs, rh, w⟩ =>
  TM.go hs rh w fun ρ1 H1 h1 v d le rh1 rv w1 => by
    obtain ⟨b, t, w2⟩ := tru_bind rh1 rv w1
    exact ⟨b, t, w2.okI Le.refl rh1 (.bl _)⟩⟩
def mIte (m : Sg → Mh → R Bool) (p q : Sg → Mh → R D) : Sg → Mh → R D := fun sg h => (m sg h).bind fun b h1 => if b = true then p sg h1 else q sg h1
theorem q_ite (hc : PB X W c na) (ha : PM X W a ma) (hb : PM X W b mb) : PM X W (.IfExp c a b pos) (mIte na ma mb) := ⟨PEimp (pe_ifExp hc.pt ha.pe hb.pe) fun σ H Q ⟨ρ, sg, h, hs, rh, w⟩ =>
  TMb.go hs rh w fun ρ1 H1 h1 b le rh1 w1 => by
    split
    · rename_i hb; rw [if_pos hb] at w1; exact ⟨ρ1, sg, h1, hs.mono le, rh1, w1⟩
    · rename_i hb; rw [if_neg hb] at w1; exact ⟨ρ1, sg, h1, hs.mono le, rh1, w1⟩⟩
end
end
end Mo

namespace Mo
open PySem PySem.Spec PyProof.Rows L2
section
variable {X : Cx} {W : WX}
/-! ### lists of expressions, displays -/
def mNil : Sg → Mh → R (List D) := fun _ h => .ok [] h
def mCons (m : Sg → Mh → R D) (r : Sg → Mh → R (List D)) : Sg → Mh → R (List D) := fun sg h => (m sg h).bind fun d h1 => (r sg h1).bind fun ds h2 => .ok (d :: ds) h2
theorem l_nil : PL X W [] mNil := ⟨PAimp pa_nil fun σ H Q ⟨ρ, sg, h, hs, rh, w⟩ => w.okI Le.refl rh .nil⟩
theorem l_cons {e : Expr} {es : List Expr} {m : Sg → Mh → R D} {r : Sg → Mh → R (List D)} (he : PM X W e m) (hr : PL X W es r) (hs : starEach (e :: es) X.env = (false, eval e X.env) :: starEach es X.env := by rfl) : PL X W (e :: es) (mCons m r) :=
  ⟨PAimp (pa_cons he.pe hr.pa hs) fun σ H Q ⟨ρ, sg, h, hs, rh, w⟩ => TM.go hs rh w fun ρ1 H1 h1 v d le rh1 rv w1 => TMl.go (hs.mono le) rh1 w1 fun ρ2 H2 h2 vs ds le2 rh2 rvs w2 => w2.okI Le.refl rh2 (.cons (rv.mono le2) rvs)⟩
def mTup (r : Sg → Mh → R (List D)) : Sg → Mh → R D := fun sg h => (r sg h).bind fun ds h1 => if ds.length ≤ sizeLine then .ok (.tup ds) h1 else .bad
def mLst (r : Sg → Mh → R (List D)) : Sg → Mh → R D := fun sg h => (r sg h).bind fun ds h1 => if ds.length ≤ sizeLine then .ok (.ref h1.length) (h1 ++ [.lst ds]) else .bad
section
variable {a b c : Expr} {es : List Expr} {ma mb mc : Sg → Mh → R D} {ml : Sg → Mh → R (List D)} {pos : Pos}
theorem q_tup {k} (h : PL X W es ml) : PM X W (.Tuple es k pos) (mTup ml) := ⟨PEimp (pe_tup h.pa) fun σ H Q ⟨ρ, sg, h, hs, rh, w⟩ => TMl.go hs rh w fun ρ1 H1 h1 vs ds le rh1 rvs w1 => by
  split at w1
  · rename_i hz
    exact ⟨by rw [rvs.length]; exact hz, fun p hp => w1.tuple rh1 hp rvs⟩
  · exact w1.elim⟩
theorem q_lst (h : PL X W es ml) : PM X W (.List es pos) (mLst ml) := ⟨PEimp (pe_lst h.pa) fun σ H Q ⟨ρ, sg, h, hs, rh, w⟩ => TMl.go hs rh w fun ρ1 H1 h1 vs ds le rh1 rvs w1 => by
  split at w1
  · rename_i hz
    exact ⟨by rw [rvs.length]; exact hz, fun p hp => w1.alloc rh1 hp (RO.newList hp rvs)⟩
  · exact w1.elim⟩
/-! ### subscripts -/
theorem RVs.atI {K mg ρ H} {vs : List V} {ds : List D} {i : Int} {d : D} (r : RVs K mg ρ H vs ds) (e : L2.atI ds i = some d) : ∃ v, L2.atI vs i = some v ∧ RV K mg ρ H v d := by
  unfold L2.atI at e ⊢
  rw [r.length]
  cases q : ixN ds.length i with
  | none => rw [q] at e; cases e
  | some j =>
    rw [q] at e
    obtain ⟨v, e1, rv⟩ := r.get (show ds[j]? = some d from e)
    exact ⟨v, e1, rv⟩
def dIx : D → D → Mh → R D
  | .tup ds, .int i, h => match atI ds i with
    | some d => .ok d h
    | none => .bad
  | .str z, .int i, h => if z.length ≤ sizeLine then match atI z.cps.toList i with
    | some c => .ok (.str ⟨#[c]⟩) h
    | none => .bad else .bad
  | .ref n, .int i, h => match h[n]? with
    | some (.lst ds) => match atI ds i with
      | some d => .ok d h
      | none => .bad
    | some (.fls ds) => match atI ds i with
      | some d => .ok d h
      | none => .bad
    | _ => .bad
  | _, _, _ => .bad
theorem sem_ix : Sem2 X (rIx X.K) dIx := by
  intro W σ ρ H h Q v1 v2 d1 d2 rh r1 r2 w
  unfold dIx at w
  split at w
  · split at w
    · rename_i e
      cases r2
      cases r1 with
      | tup t q =>
        obtain ⟨v, e1, rv⟩ := q.atI e
        exact .inr (.inl ⟨_, _, _, v, rfl, rfl, t, e1, w.okI Le.refl rh rv⟩)
    · exact w.elim
  · split at w
    · split at w
      · rename_i e
        cases r1; cases r2
        exact .inr (.inr ⟨_, _, _, rfl, rfl, by assumption, e, w.okI Le.refl rh (.str _)⟩)
      · exact w.elim
    · exact w.elim
  · split at w
    · rename_i e0
      split at w
      · rename_i e
        cases r2
        cases r1 with
        | ref r1 =>
          cases rh.at r1 e0 with
          | lst h1 q =>
            obtain ⟨v, e1, rv⟩ := q.atI e
            exact .inl ⟨_, _, _, v, rfl, rfl, SqL.of h1, e1, w.okI Le.refl rh rv⟩
      · exact w.elim
    · rename_i e0
      split at w
      · rename_i e
        cases r2
        cases r1 with
        | ref r1 =>
          cases rh.at r1 e0 with
          | fls h1 q =>
            obtain ⟨v, e1, rv⟩ := q.atI e
            exact .inl ⟨_, _, _, v, rfl, rfl, h1.sq, e1, w.okI Le.refl rh rv⟩
      · exact w.elim
    · exact w.elim
  · exact w.elim
theorem q_sub_ix (ha : PM X W a ma) (hb : PM X W b mb) (hp : PlainIx b := by intro _ _; rfl) : PM X W (.Subscript a b pos) (m2 dIx ma mb) := q_ix ix_seq sem_ix ha hb hp
/-- a slice's part -/
def mNoP : Sg → Mh → R (Option Int) := fun _ h => .ok none h
def mPart (m : Sg → Mh → R D) : Sg → Mh → R (Option Int) := fun sg h => (m sg h).bind fun d h1 => match d with
  | .int i => .ok (some i) h1
  | _ => .bad
def TMo (W : WX) (K : PySem.W.Frag) (mg : Str → Option Value) (m : Sg → Mh → R (Option Int)) : TO := fun σ H Q => ∃ ρ sg h, RSt K mg ρ H σ sg ∧ RHp K mg ρ H h ∧ WG K mg (fun _ _ v a => v = a) W σ Q ρ H (m sg h)
structure PPt (X : Cx) (W : WX) (e : Option Expr) (m : Sg → Mh → R (Option Int)) : Prop where
  po : PO X e (TMo W X.K X.mg m)
theorem POimp {X : Cx} {e : Option Expr} {t t' : TO} (h : PO X e t) (i : ∀ σ H Q, t' σ H Q → t σ H Q) : PO X e t' := ⟨fun pins s σ H Q I hw => h.run pins s σ H Q I (i _ _ _ hw)⟩
theorem p_none : PPt X W none mNoP := ⟨POimp po_none fun σ H Q ⟨ρ, sg, h, hs, rh, w⟩ => w.okI Le.refl rh rfl⟩
theorem p_some (ha : PM X W a ma) : PPt X W (some a) (mPart ma) := ⟨POimp (po_some ha.pe) fun σ H Q ⟨ρ, sg, h, hs, rh, w⟩ => TM.go hs rh w fun ρ1 H1 h1 v d le rh1 rv w1 => by
  cases rv <;> first | exact w1.elim | skip
  exact ⟨_, rfl, w1.okI Le.refl rh1 rfl⟩⟩
def cutD (xs : List D) (lo hi : Option Int) : List D := (xs.drop (HT.sIx xs.length 0 lo)).take (HT.sIx xs.length xs.length hi - HT.sIx xs.length 0 lo)
theorem RVs.cut {K mg ρ H} {vs : List V} {ds : List D} (r : RVs K mg ρ H vs ds) (lo hi : Option Int) : RVs K mg ρ H (cutV vs lo hi) (cutD ds lo hi) := by
  unfold cutV cutD
  rw [r.length]
  exact (r.drop _).take _
def dSl (x : D) (lo hi : Option Int) (h : Mh) : R D := match x with
  | .str z => if z.length ≤ sizeLine then .ok (.str (cutS z lo hi)) h else .bad
  | .tup ds => if HT.sIx ds.length 0 lo = 0 ∧ HT.sIx ds.length ds.length hi = ds.length then .bad else .ok (.tup (cutD ds lo hi)) h
  | .ref n => match h[n]? with
    | some (.lst ds) => .ok (.ref h.length) (h ++ [.lst (cutD ds lo hi)])
    | some (.fls ds) => .ok (.ref h.length) (h ++ [.lst (cutD ds lo hi)])
    | _ => .bad
  | _ => .bad
def mSl (m : Sg → Mh → R D) (lo hi : Sg → Mh → R (Option Int)) : Sg → Mh → R D := fun sg h => (m sg h).bind fun x h1 => (lo sg h1).bind fun l h2 => (hi sg h2).bind fun u h3 => dSl x l u h3
theorem q_slice {lo hi : Option Expr} {ml mh : Sg → Mh → R (Option Int)} {p2 : Pos} (ha : PM X W a ma) (hl : PPt X W lo ml) (hh : PPt X W hi mh) : PM X W (.Subscript a (.Slice lo hi none p2) pos) (mSl ma ml mh) :=
  ⟨PEimp (pe_slice (SlR.or sl_list (SlR.or sl_str sl_tup)) ha.pe hl.po hh.po) fun σ H Q ⟨ρ, sg, h, hs, rh, w⟩ => by
    refine TM.go hs rh w fun ρ1 H1 h1 v d le rh1 rv w1 => ⟨ρ1, sg, h1, hs.mono le, rh1, w1.cut fun ρ2 H2 h2 l l' le2 rh2 e w2 => ?_⟩
    subst e
    refine ⟨ρ2, sg, h2, (hs.mono le).mono le2, rh2, w2.cut fun ρ3 H3 h3 u u' le3 rh3 e w3 => ?_⟩
    subst e
    have rv3 := rv.mono (le2.trans le3)
    unfold dSl at w3
    split at w3
    · split at w3
      · rename_i hz
        cases rv3
        exact .inr (.inl ⟨_, rfl, hz, w3.okI Le.refl rh3 (.str _)⟩)
      · exact w3.elim
    · split at w3
      · exact w3.elim
      · rename_i hz
        cases rv3 with
        | tup t q => exact .inr (.inr ⟨_, _, rfl, t, by rw [q.length]; exact hz, fun p hp => w3.tuple rh3 hp (q.cut _ _)⟩)
    · split at w3
      · rename_i e0
        cases rv3 with
        | ref r1 =>
          cases rh3.at r1 e0 with
          | lst h1 q => exact .inl ⟨_, _, rfl, SqL.of h1, fun p hp => w3.alloc rh3 hp (RO.newList hp (q.cut _ _))⟩
      · rename_i e0
        cases rv3 with
        | ref r1 =>
          cases rh3.at r1 e0 with
          | fls h1 q => exact .inl ⟨_, _, rfl, h1.sq, fun p hp => w3.alloc rh3 hp (RO.newList hp (q.cut _ _))⟩
      · exact w3.elim
    · exact w3.elim⟩
/-! ### dicts with int and text keys -/
def valD (kvs : List (Key × D)) (k : Key) : Option D := (kvs.find? fun kv => decide (kv.1 = k)).map (·.2)
def dGet : D → D → Mh → R D
  | .ref n, k, h => match h[n]?, keyD k with
    | some (.dk kvs), some key => match valD kvs key with
      | some d => .ok d h
      | none => .bad
    | _, _ => .bad
  | _, _, _ => .bad
theorem key_of {K mg ρ H} {v : V} {d : D} {k : Key} (r : RV K mg ρ H v d) (e : keyD d = some k) : v = kV k := by
  cases r <;> first
    | (cases e; done)
    | (cases e; rfl)
theorem valD_pos {p : Key × D} {r : List (Key × D)} {k : Key} (e : p.1 = k) : valD (p :: r) k = some p.2 := by simp [valD, List.find?_cons, e]
theorem valD_neg {p : Key × D} {r : List (Key × D)} {k : Key} (e : ¬ p.1 = k) : valD (p :: r) k = valD r k := by simp [valD, List.find?_cons, e]
inductive RK (K : PySem.W.Frag) (mg : Str → Option Value) (ρ : Ren) (H : Hp) : Option V → Option D → Prop
  | none : RK K mg ρ H none none
  | some {v : V} {d : D} : RV K mg ρ H v d → RK K mg ρ H (some v) (some d)
theorem valD_of {K mg ρ H} {k : Key} : ∀ {kvs : List (Key × V)} {kds : List (Key × D)}, kvs.map (·.1) = kds.map (·.1) → RVs K mg ρ H (kvs.map (·.2)) (kds.map (·.2)) → RK K mg ρ H (valV kvs k) (valD kds k)
  | [], [], _, _ => .none
  | [], _ :: _, e, _ => by cases e
  | _ :: _, [], e, _ => by cases e
  | p :: kvs, q :: kds, e, r => by
    have e1 : p.1 = q.1 := (List.cons.inj e).1
    have e2 := (List.cons.inj e).2
    cases r with
    | cons r t =>
      have ih := valD_of (k := k) e2 t
      by_cases c : q.1 = k
      · rw [valD_pos c, valV_pos (e1.trans c)]
        exact .some r
      · rw [valD_neg c, valV_neg (fun z => c (e1.symm.trans z))]
        exact ih
end
end
end Mo

namespace Mo
open PySem PySem.Spec PyProof.Rows L2
/-! ### defs -/
def startD (n : Nat) (ds : List D) : Sg := ds.map some ++ List.replicate (n - ds.length) none
abbrev FM := List D → Mh → R D
def RS.end : RS → R D
  | .nx _ h => .ok .non h
  | .rt d h => .ok d h
  | .exc c fs _ h => .exc c fs h
  | _ => .bad
def runF (n : Nat) (ms : Sg → Mh → RS) : FM := fun ds h => (ms (startD n ds) h).end
def spM (K : PySem.W.Frag) (mg : Str → Option Value) (np : Nat) (fm : FM) : Sp := fun vs H Q E => vs.length = np ∧ ∃ ρ ds h, RVs K mg ρ H vs ds ∧ RHp K mg ρ H h ∧ WG K mg (RV K mg) (fun c dx _ H' => E c dx H') [] Q ρ H (fm ds h)
section
variable {P : Program} {w : World} {K : PySem.W.Frag} {mg : Str → Option Value} {base : Heap}
theorem start_ok {ρ : Ren} {H : Hp} {vs : List V} {ds : List D} {N : List Str} (r : RVs K mg ρ H vs ds) : RSt K mg ρ H (L2.start N vs) (startD N.length ds) := by
  unfold L2.start startD
  have l := r.length
  refine ⟨by simp [l], fun i d e => ?_⟩
  by_cases hi : i < ds.length
  · rw [List.getElem?_append_left (by simpa using hi), List.getElem?_map] at e
    cases q : ds[i]? with
    | none => rw [q] at e; cases e
    | some d' =>
      rw [q] at e; cases e
      obtain ⟨v, e1, rv⟩ := r.get q
      exact ⟨v, by rw [List.getElem?_append_left (by simpa [l] using hi), List.getElem?_map, e1]; rfl, rv⟩
  · rw [List.getElem?_append_right (by simpa using hi), List.getElem?_replicate] at e
    split at e <;> cases e
theorem end_ok {ρ : Ren} {H : Hp} {Q : VK} {E : XK} {r : RS} (q : WG K mg (RV K mg) (fun c dx _ H' => E c dx H') [] Q ρ H r.end) : WS K mg (fun c dx _ H' => E c dx H') { nx := fun _ H' => Q .non H', rt := Q } ρ H r := by
  cases r with
  | nx sg h => exact fun ρ' H' σ' le rh _ => q ρ' H' .non le rh .non
  | rt d h => exact q
  | bk sg h => exact q.elim
  | ct sg h => exact q.elim
  | exc c fs sg h => exact fun ρ' H' σ' C dx le rh _ g x => q ρ' H' C dx le rh g x
  | bad => exact q.elim
theorem fn_m {x qual : Str} {st : Stmt} {f : Addr} {fd : FuncData} {N ps : List Str} {k : Nat} {ms : Sg → Mh → RS} (F : Fun K x qual st f fd) (S : FnScope N ps (defScope st))
    (hb : ∀ (cdv : Value) (A : Around) (outer : List Env) (s : Shared) (H : Hp) (E : XK), Room k (A.deeper (envOfC qual (defScope st) s.heap.objs.size f cdv)) →
      PSL (cxOf (L2.CX P w) P w K mg base N qual (defScope st) f cdv A outer s H E) (fun c dx _ H' => E c dx H') (defBody st) ms) :
    FnOk P w K mg base (L2.CX P w) (k + 1) f fd ps (spM K mg ps.length (runF N.length ms)) := by
  refine F.okX S (fun vs H Q E h => h.1) fun cdv A outer s H vs Q E hr h => ⟨_, (hb cdv A outer s H E hr).ps, ?_⟩
  obtain ⟨hl, ρ, ds, h, r, rh, q⟩ := h
  exact ⟨ρ, _, h, start_ok r, rh, end_ok q⟩
theorem no_fuel {f : Addr} {fd : FuncData} {ps : List Str} {k : Nat} : FnOk P w K mg base (L2.CX P w) k f fd ps (spM K mg ps.length fun _ _ => .bad) :=
  ⟨fun vs H Q E h => h.1, fun A outer s H args us vs Q E _ _ _ _ h => by obtain ⟨_, _, _, _, _, _, q⟩ := h; exact q.elim⟩
end
section
variable {X : Cx} {W : WX}
/-! ### calls of own defs -/
def mCall (np : Nat) (fm : FM) (ml : Sg → Mh → R (List D)) (dds : List D) : Sg → Mh → R D := fun sg h => (ml sg h).bind fun ds h1 => if (ds ++ dds).length = np then fm (ds ++ dds) h1 else .bad
theorem WG.wx {K mg} {W W' : WX} {σ σ' : L2.St} {α β : Type} {rel : Ren → Hp → β → α → Prop} {Q : β → Hp → Prop} {ρ : Ren} {H : Hp} {r : R α} (hw : ∀ c dx H', W c dx σ H' → W' c dx σ' H') (w : WG K mg rel W σ Q ρ H r) : WG K mg rel W' σ' Q ρ H r := by
  cases r with
  | ok a h => exact w
  | exc c fs h => exact fun ρ' H' C dx le rh g x => hw _ _ _ (w ρ' H' C dx le rh g x)
  | bad => exact w
variable {k np : Nat} {f : Addr} {fd : FuncData} {ps : List Str} {fm : FM} {x : Str} {p pos : Pos} {e : Expr} {es : List Expr} {ml : Sg → Mh → R (List D)} {dvs : List V} {dds : List D} {dus : List Value}
theorem q_callD (F : FnOk X.prog X.w X.K X.mg X.base (L2.CX X.prog X.w) k f fd ps (spM X.K X.mg np fm)) (hr : Room k X.A) (tk : Takes X W) (hm : X.mg x = some (.ref f)) (hk : PySem.W.keepIn X.K (.ref f) = true) (hb : L2.Binds X.K fd ps dus) (hd : Vals dvs dus)
    (hdd : ∀ ρ H, RVs X.K X.mg ρ H dvs dds) (ha : PL X W (e :: es) ml) (hg : Gl X x := by rfl) (hdb : (x == ("__debug__" : Str)) = false := by decide) (he : starEach (e :: es) X.env = (false, eval e X.env) :: starEach es X.env := by rfl)
    (hpl : (backTo pos (starEach es X.env)).any (·.1) = false := by rfl) : PM X W (.Call (.Name x p) (e :: es) [] pos) (mCall np fm ml dds) :=
  ⟨PEimp (pe_callSD F hr hg hm hk hb hd (fun σ => passAt tk σ) ha.pa hdb he hpl) fun σ H Q ⟨ρ, sg, h, hs, rh, w⟩ => TMl.go hs rh w fun ρ1 H1 h1 vs ds le rh1 rvs w1 => by
    split at w1
    · rename_i hl
      have r2 := rvs.append (hdd ρ1 H1)
      exact ⟨by rw [r2.length]; exact hl, ρ1, _, h1, r2, rh1, w1.wx fun _ _ _ z => z⟩
    · exact w1.elim⟩
theorem q_call (F : FnOk X.prog X.w X.K X.mg X.base (L2.CX X.prog X.w) k f fd ps (spM X.K X.mg np fm)) (hr : Room k X.A) (tk : Takes X W) (hm : X.mg x = some (.ref f)) (hk : PySem.W.keepIn X.K (.ref f) = true) (hb : L2.Binds X.K fd ps [])
    (ha : PL X W (e :: es) ml) (hg : Gl X x := by rfl) (hdb : (x == ("__debug__" : Str)) = false := by decide) (he : starEach (e :: es) X.env = (false, eval e X.env) :: starEach es X.env := by rfl)
    (hpl : (backTo pos (starEach es X.env)).any (·.1) = false := by rfl) : PM X W (.Call (.Name x p) (e :: es) [] pos) (mCall np fm ml []) := q_callD F hr tk hm hk hb .nil (fun _ _ => .nil) ha hg hdb he hpl
theorem pe_call0S {E : L2.St → XK} {sp : Sp} {CX : CXT} (F : FnOk X.prog X.w X.K X.mg X.base CX k f fd ps sp) (hr : Room k X.A) (hg : Gl X x) (hm : X.mg x = some (.ref f)) (hk : PySem.W.keepIn X.K (.ref f) = true) (hb : L2.Binds X.K fd ps dus) (hd : Vals dvs dus)
    (hx : ∀ σ, PassesAt CX X σ (E σ)) (hdb : (x == ("__debug__" : Str)) = false := by decide) : PE X (.Call (.Name x p) [] [] pos) (tCallSD sp dvs E tNil) := by
  refine ⟨fun pins s σ H Q I h => ?_⟩
  refine wpAny_Call_Name_kw (ld_glob I hg hm ?_ hdb)
  exact PySem.W.callWith_K0 I.kIn hk (run_fnSD (us := []) F hr hb hd (hx σ) I .nil h)
theorem q_call0 (F : FnOk X.prog X.w X.K X.mg X.base (L2.CX X.prog X.w) k f fd ps (spM X.K X.mg np fm)) (hr : Room k X.A) (tk : Takes X W) (hm : X.mg x = some (.ref f)) (hk : PySem.W.keepIn X.K (.ref f) = true) (hb : L2.Binds X.K fd ps [])
    (hg : Gl X x := by rfl) (hdb : (x == ("__debug__" : Str)) = false := by decide) : PM X W (.Call (.Name x p) [] [] pos) (mCall np fm mNil []) :=
  ⟨PEimp (pe_call0S F hr hg hm hk hb .nil (fun σ => passAt tk σ) hdb) fun σ H Q ⟨ρ, sg, h, hs, rh, w⟩ => by
    unfold mCall mNil at w
    rw [R.bind_ok] at w
    split at w
    · rename_i hl
      exact ⟨by simpa using hl, ρ, [], h, .nil, rh, w.wx fun _ _ _ z => z⟩
    · exact w.elim⟩
/-! ### built-ins called -/
def mBi (f : List D → Mh → R D) (ml : Sg → Mh → R (List D)) : Sg → Mh → R D := fun sg h => (ml sg h).bind f
theorem q_bi {id : String} {r : List V → Hp → VK → Prop} {f : List D → Mh → R D} (hc : CallR X (.builtin id) r) (s : SemL X r f) (hm : X.mg x = none) (ha : PL X W (e :: es) ml) (hv : bootBuiltins x = some (.builtin id) := by decide +kernel) (hg : Gl X x := by rfl)
    (hn : x ≠ "__name__" := by decide) (hdb : (x == ("__debug__" : Str)) = false := by decide) (he : starEach (e :: es) X.env = (false, eval e X.env) :: starEach es X.env := by rfl) (hpl : (backTo pos (starEach es X.env)).any (·.1) = false := by rfl) :
    PM X W (.Call (.Name x p) (e :: es) [] pos) (mBi f ml) :=
  ⟨PEimp (pe_callB hc hg hm hv ha.pa hn hdb he hpl) fun σ H Q ⟨ρ, sg, h, hs, rh, w⟩ => TMl.go hs rh w fun ρ1 H1 h1 vs ds le rh1 rvs w1 => s W σ ρ1 H1 h1 Q vs ds rh1 rvs w1⟩
theorem q_ty {T : String} {r : List V → Hp → VK → Prop} {f : List D → Mh → R D} (hc : CallR X (.type T) r) (s : SemL X r f) (hm : X.mg x = none) (ha : PL X W (e :: es) ml) (hv : bootBuiltins x = some (.type T) := by decide +kernel) (hg : Gl X x := by rfl)
    (hn : x ≠ "__name__" := by decide) (hdb : (x == ("__debug__" : Str)) = false := by decide) (he : starEach (e :: es) X.env = (false, eval e X.env) :: starEach es X.env := by rfl) (hpl : (backTo pos (starEach es X.env)).any (·.1) = false := by rfl) :
    PM X W (.Call (.Name x p) (e :: es) [] pos) (mBi f ml) :=
  ⟨PEimp (pe_callTy hc hg hm hv ha.pa hn hdb he hpl) fun σ H Q ⟨ρ, sg, h, hs, rh, w⟩ => TMl.go hs rh w fun ρ1 H1 h1 vs ds le rh1 rvs w1 => s W σ ρ1 H1 h1 Q vs ds rh1 rvs w1⟩
end
/-! ### statements -/
section
variable {X : Cx} {W : WX} {a b c : Expr} {ma mb mc : Sg → Mh → R D} {nc : Sg → Mh → R Bool} {pos : Pos} {st : Stmt} {sts rest : List Stmt} {m n : Sg → Mh → RS}
def sNext : Sg → Mh → RS := fun sg h => .nx sg h
def sSeq (m n : Sg → Mh → RS) : Sg → Mh → RS := fun sg h => (m sg h).th n
theorem b_nil : PSL X W [] sNext := ⟨PSsimp pss_nil fun E σ H ⟨ρ, sg, h, hs, rh, w⟩ => w ρ H σ Le.refl rh hs⟩
theorem b_one (h1 : PSM X W st m) : PSL X W [st] m := ⟨pss_one h1.ps⟩
theorem b_cons (h1 : PSM X W st m) (h2 : PSL X W rest n) : PSL X W (st :: rest) (sSeq m n) := ⟨PSsimp (pss_cons h1.ps h2.ps) fun E σ H ⟨ρ, sg, h, hs, rh, w⟩ => by
  refine ⟨ρ, sg, h, hs, rh, ?_⟩
  unfold sSeq at w
  cases e : m sg h with
  | nx sg' h' =>
    rw [e] at w
    exact fun ρ' H' σ' le rh' hs' => ⟨ρ', sg', h', hs', rh', WS.mono le w⟩
  | rt d h' => rw [e] at w; exact w
  | bk sg' h' => rw [e] at w; exact w
  | ct sg' h' => rw [e] at w; exact w
  | exc c fs sg' h' => rw [e] at w; exact w
  | bad => rw [e] at w; exact w⟩
theorem WS.nxI {K mg W E ρ H} {sg : Sg} {h : Mh} {ρ1 : Ren} {H1 : Hp} {σ : L2.St} (w : WS K mg W E ρ H (.nx sg h)) (le : Le K ρ H ρ1 H1) (rh : RHp K mg ρ1 H1 h) (hs : RSt K mg ρ1 H1 σ sg) : E.nx σ H1 := w ρ1 H1 σ le rh hs
def sBad : Sg → Mh → RS := fun _ _ => .bad
theorem s_never : PSM X W st sBad := ⟨PSimp ps_never fun E σ H ⟨ρ, sg, h, hs, rh, w⟩ => w⟩
theorem b_never : PSL X W sts sBad := ⟨PSsimp pss_never fun E σ H ⟨ρ, sg, h, hs, rh, w⟩ => w⟩
theorem s_pass : PSM X W (.Pass pos) sNext := ⟨PSimp ps_pass fun E σ H ⟨ρ, sg, h, hs, rh, w⟩ => w.nxI Le.refl rh hs⟩
def sBrk : Sg → Mh → RS := fun sg h => .bk sg h
def sCnt : Sg → Mh → RS := fun sg h => .ct sg h
theorem s_break : PSM X W (.Break pos) sBrk := ⟨PSimp ps_break fun E σ H ⟨ρ, sg, h, hs, rh, w⟩ => w ρ H σ Le.refl rh hs⟩
theorem s_continue : PSM X W (.Continue pos) sCnt := ⟨PSimp ps_continue fun E σ H ⟨ρ, sg, h, hs, rh, w⟩ => w ρ H σ Le.refl rh hs⟩
def sExpr (m : Sg → Mh → R D) : Sg → Mh → RS := fun sg h => (m sg h).th sg fun _ h1 => .nx sg h1
theorem s_expr (ha : PM X W a ma) (hs : swapsWith a none pos.line X.env = pure false := by rfl) : PSM X W (.Expr a pos) (sExpr ma) := ⟨PSimp (ps_expr ha.pe hs) fun E σ H ⟨ρ, sg, h, hs, rh, w⟩ => TM.goS hs rh w fun ρ1 H1 h1 v d le rh1 rv w1 => w1.nxI Le.refl rh1 (hs.mono le)⟩
theorem s_doc {x j pos'} : PSM X W (.Expr (.Constant (.str x) j pos) pos') sNext := ⟨PSimp ps_doc fun E σ H ⟨ρ, sg, h, hs, rh, w⟩ => w.nxI Le.refl rh hs⟩
def sRet (m : Sg → Mh → R D) : Sg → Mh → RS := fun sg h => (m sg h).th sg fun d h1 => .rt d h1
theorem s_ret (ha : PM X W a ma) : PSM X W (.Return (some a) pos) (sRet ma) := ⟨PSimp (ps_ret ha.pe) fun E σ H ⟨ρ, sg, h, hs, rh, w⟩ => TM.goS hs rh w fun ρ1 H1 h1 v d le rh1 rv w1 => w1 ρ1 H1 v Le.refl rh1 rv⟩
theorem s_retN : PSM X W (.Return none pos) (sRet (mLit .non)) := ⟨PSimp ps_retN fun E σ H ⟨ρ, sg, h, hs, rh, w⟩ => w ρ H .non Le.refl rh .non⟩
def sIf (c : Sg → Mh → R Bool) (m n : Sg → Mh → RS) : Sg → Mh → RS := fun sg h => (c sg h).th sg fun b h1 => if b = true then m sg h1 else n sg h1
theorem s_if {p q : List Stmt} (hc : PB X W c nc) (hp : PSL X W p m) (hq : PSL X W q n) : PSM X W (.If c p q pos) (sIf nc m n) := ⟨PSimp (ps_if hc.pt hp.ps hq.ps) fun E σ H ⟨ρ, sg, h, hs, rh, w⟩ => TMb.goS hs rh w fun ρ1 H1 h1 b le rh1 w1 => by
  split
  · rename_i hb; rw [if_pos hb] at w1; exact ⟨ρ1, sg, h1, hs.mono le, rh1, w1⟩
  · rename_i hb; rw [if_neg hb] at w1; exact ⟨ρ1, sg, h1, hs.mono le, rh1, w1⟩⟩
theorem RSt.set {K mg ρ H} {σ : L2.St} {sg : Sg} (r : RSt K mg ρ H σ sg) (i : Nat) {v : V} {d : D} (rv : RV K mg ρ H v d) : RSt K mg ρ H (σ.set i (some v)) (sg.set i (some d)) := by
  refine ⟨by simp [r.len], fun j d' e => ?_⟩
  by_cases hj : i = j
  · subst hj
    by_cases hi : i < sg.length
    · rw [List.getElem?_set_self hi] at e
      cases e
      exact ⟨v, by rw [List.getElem?_set_self (by rw [r.len]; exact hi)], rv⟩
    · rw [List.getElem?_eq_none (by simpa using hi)] at e; cases e
  · rw [List.getElem?_set_ne hj] at e ⊢
    exact r.val j d' e
def sSet (i : Nat) (m : Sg → Mh → R D) : Sg → Mh → RS := fun sg h => (m sg h).th sg fun d h1 => .nx (sg.set i (some d)) h1
theorem s_set (i : Nat) {x : Str} {pos' : Pos} (hN : X.N.Nodup) (ha : PM X W a ma) (hi : X.N[i]? = some x := by rfl) (hx : Loc X.env.scope x := by first | exact Or.inl rfl | exact Or.inr rfl) (hs : swapsWith a (some (.Name x pos')) pos.line X.env = pure false := by rfl)
    (hf : X.fn x = true ∨ X.env.scope.names.lookup x = some .local := by first | exact .inl rfl | exact .inr rfl) : PSM X W (.Assign [.Name x pos'] a pos) (sSet i ma) :=
  ⟨PSimp (ps_set hN hi hx ha.pe hs hf) fun E σ H ⟨ρ, sg, h, hs, rh, w⟩ => TM.goS hs rh w fun ρ1 H1 h1 v d le rh1 rv w1 => w1.nxI Le.refl rh1 ((hs.mono le).set i rv)⟩
/-- a, b = x, y -/
def sPar (i j : Nat) (ml : Sg → Mh → R (List D)) : Sg → Mh → RS := fun sg h => (ml sg h).th sg fun ds h1 => match ds with
  | [p, q] => .nx ((sg.set i (some p)).set j (some q)) h1
  | _ => .bad
theorem TMl.goS {K mg ρ H σ sg h} {E : Ends} {Q1 : List V → Hp → Prop} {m : Sg → Mh → R (List D)} {f : List D → Mh → RS} (hs : RSt K mg ρ H σ sg) (rh : RHp K mg ρ H h) (w : WS K mg W E ρ H ((m sg h).th sg f))
    (k : ∀ ρ1 H1 h1 v a, Le K ρ H ρ1 H1 → RHp K mg ρ1 H1 h1 → RVs K mg ρ1 H1 v a → WS K mg W E ρ1 H1 (f a h1) → Q1 v H1) : TMl K mg W m σ H Q1 := ⟨ρ, sg, h, hs, rh, WS.cutS hs w k⟩
theorem s_par (i j : Nat) {x y : Str} {px py pt pt2 : Pos} {kt k2} {ml : Sg → Mh → R (List D)} (hN : X.N.Nodup) (ha : PL X W [a, b] ml) (hc : X.calm = true := by rfl) (hi : X.N[i]? = some x := by rfl) (hj : X.N[j]? = some y := by rfl) (hij : i ≠ j := by decide)
    (hx : X.env.scope.names.lookup x = some .local := by rfl) (hy : X.env.scope.names.lookup y = some .local := by rfl)
    (hw : swappedStores [.Tuple [.Name x px, .Name y py] kt pt] (.Tuple [a, b] k2 pt2) X.env = pure (some [x, y]) := by rfl)
    (hs : swapsWithSole [.Tuple [.Name x px, .Name y py] kt pt] (.Tuple [a, b] k2 pt2) pos.line X.env = pure false := by rfl) : PSM X W (.Assign [.Tuple [.Name x px, .Name y py] kt pt] (.Tuple [a, b] k2 pt2) pos) (sPar i j ml) :=
  ⟨PSimp (ps_par hc hN hi hj hij hx hy ha.pa hw hs) fun E σ H ⟨ρ, sg, h, hs, rh, w⟩ => TMl.goS hs rh w fun ρ1 H1 h1 vs ds le rh1 rvs w1 => by
    split at w1
    · cases rvs with
      | cons r1 t => cases t with
        | cons r2 t =>
          cases t
          exact ⟨_, _, rfl, w1.nxI Le.refl rh1 (((hs.mono le).set i r1).set j r2)⟩
    · exact w1.elim⟩
/-! ### targets -/
def TMg (K : PySem.W.Frag) (mg : Str → Option Value) (ts : List Nat) (g : D → Sg → Option Sg) : TG := fun v σ H Q => ∃ ρ sg d sg', RSt K mg ρ H σ sg ∧ RV K mg ρ H v d ∧ g d sg = some sg' ∧
  ∀ σ', RSt K mg ρ H σ' sg' → σ'.length = σ.length → (∀ j, j ∉ ts → σ'[j]? = σ[j]?) → Q σ' H
structure PGM (X : Cx) (tg : Expr) (ts : List Nat) (g : D → Sg → Option Sg) : Prop where
  pg : PG X tg (TMg X.K X.mg ts g)
theorem PGimp {X : Cx} {e : Expr} {t t' : TG} (h : PG X e t) (i : ∀ v σ H Q, t' v σ H Q → t v σ H Q) : PG X e t' := ⟨fun pins s σ H v u Q I r hw => h.run pins s σ H v u Q I r (i _ _ _ _ hw)⟩
theorem PGsimp {X : Cx} {e : List Expr} {t t' : TGs} (h : PGs X e t) (i : ∀ v σ H Q, t' v σ H Q → t v σ H Q) : PGs X e t' := ⟨fun pins s σ H v u Q I r hw => h.run pins s σ H v u Q I r (i _ _ _ _ hw)⟩
def gNm (i : Nat) : D → Sg → Option Sg := fun d sg => some (sg.set i (some d))
theorem g_name (i : Nat) {x : Str} (hN : X.N.Nodup) (hi : X.N[i]? = some x := by rfl) (hx : Loc X.env.scope x := by first | exact Or.inl rfl | exact Or.inr rfl) (hf : X.fn x = true ∨ X.env.scope.names.lookup x = some .local := by first | exact .inl rfl | exact .inr rfl) :
    PGM X (.Name x pos) [i] (gNm i) := ⟨PGimp (pg_name hN hi hx hf) fun v σ H Q ⟨ρ, sg, d, sg', hs, rv, e, q⟩ => by
  cases e
  exact q _ (hs.set i rv) (by simp) fun j hj => List.getElem?_set_ne (fun z => hj (by simp [z]))⟩
def TMgs (K : PySem.W.Frag) (mg : Str → Option Value) (ts : List Nat) (g : List D → Sg → Option Sg) : TGs := fun vs σ H Q => ∃ ρ sg ds sg', RSt K mg ρ H σ sg ∧ RVs K mg ρ H vs ds ∧ g ds sg = some sg' ∧
  ∀ σ', RSt K mg ρ H σ' sg' → σ'.length = σ.length → (∀ j, j ∉ ts → σ'[j]? = σ[j]?) → Q σ' H
structure PGL (X : Cx) (tg : List Expr) (ts : List Nat) (g : List D → Sg → Option Sg) : Prop where
  pg : PGs X tg (TMgs X.K X.mg ts g)
def gsNil : List D → Sg → Option Sg := fun ds sg => match ds with
  | [] => some sg
  | _ => none
def gsCons (g : D → Sg → Option Sg) (r : List D → Sg → Option Sg) : List D → Sg → Option Sg := fun ds sg => match ds with
  | d :: t => (g d sg).bind (r t)
  | _ => none
theorem gs_nil : PGL X [] [] gsNil := ⟨PGsimp pgs_nil fun vs σ H Q ⟨ρ, sg, ds, sg', hs, rv, e, q⟩ => by
  unfold gsNil at e
  split at e
  · cases e; cases rv; exact ⟨rfl, q _ hs rfl fun _ _ => rfl⟩
  · cases e⟩
theorem gs_cons {es : List Expr} {ts us : List Nat} {g : D → Sg → Option Sg} {r : List D → Sg → Option Sg} (h1 : PGM X a ts g) (h2 : PGL X es us r) (hs : (assignEach (a :: es) X.env).map (·.2) = assign a X.env :: (assignEach es X.env).map (·.2) := by rfl) : PGL X (a :: es) (ts ++ us) (gsCons g r) :=
  ⟨PGsimp (pgs_cons h1.pg h2.pg hs) fun vs σ H Q ⟨ρ, sg, ds, sg', hs, rv, e, q⟩ => by
    unfold gsCons at e
    split at e
    · rename_i d t
      cases rv with
      | cons r1 rt =>
        obtain ⟨sg1, e1, e2⟩ := Option.bind_eq_some_iff.mp e
        refine ⟨_, _, rfl, ρ, sg, d, sg1, hs, r1, e1, fun σ1 hs1 l1 k1 => ⟨ρ, sg1, t, sg', hs1, rt, e2, fun σ2 hs2 l2 k2 => q σ2 hs2 (l2.trans l1) fun j hj => ?_⟩⟩
        rw [List.mem_append, not_or] at hj
        exact (k2 j hj.2).trans (k1 j hj.1)
    · cases e⟩
def gTp (n : Nat) (r : List D → Sg → Option Sg) : D → Sg → Option Sg := fun d sg => match d with
  | .tup ds => if ds.length = n then r ds sg else none
  | _ => none
theorem g_tup {es : List Expr} {k n : Nat} {ts : List Nat} {r : List D → Sg → Option Sg} (h : PGL X es ts r) (hc : X.calm = true := by rfl) (hn : (assignEach es X.env).length = n := by rfl) (hst : (assignEach es X.env).findIdx? (·.1) = none := by rfl) : PGM X (.Tuple es k pos) ts (gTp n r) :=
  ⟨PGimp (pg_tup hc h.pg hn hst) fun v σ H Q ⟨ρ, sg, d, sg', hs, rv, e, q⟩ => by
    unfold gTp at e
    split at e
    · split at e
      · rename_i hl
        cases rv with
        | tup t rs => exact ⟨_, _, rfl, t, by rw [rs.length]; exact hl, ρ, sg, _, sg', hs, rs, e, q⟩
      · cases e
    · cases e⟩
/-- target = value -/
def sAsg (g : D → Sg → Option Sg) (m : Sg → Mh → R D) : Sg → Mh → RS := fun sg h => (m sg h).th sg fun d h1 => match g d sg with
  | some sg' => .nx sg' h1
  | none => .bad
theorem s_asg {tg : Expr} {ts : List Nat} {g : D → Sg → Option Sg} (hg : PGM X tg ts g) (ha : PM X W a ma) (hs : swapsWithSole [tg] a pos.line X.env = pure false := by rfl) (hw : swappedStores [tg] a X.env = pure none := by rfl)
    (h1 : (assignEach [tg] X.env).map (·.2) = [assign tg X.env] := by rfl) : PSM X W (.Assign [tg] a pos) (sAsg g ma) :=
  ⟨PSimp (ps_asg ha.pe hg.pg hs hw h1) fun E σ H ⟨ρ, sg, h, hs, rh, w⟩ => TM.goS hs rh w fun ρ1 H1 h1 v d le rh1 rv w1 => by
    split at w1
    · rename_i sg' e
      exact ⟨ρ1, sg, d, sg', hs.mono le, rv, e, fun σ' hs' _ _ => w1.nxI Le.refl rh1 hs'⟩
    · exact w1.elim⟩
end
end Mo

namespace Mo
open PySem PySem.Spec PyProof.Rows L2
/-! ### what a loop walks -/
structure Src where
  items : List D
  at' : Nat → D → Mh → Prop
  fin : Nat → Mh → Prop
section
variable (K : PySem.W.Frag) (mg : Str → Option Value)
def SrcOk (ρ0 : Ren) (H0 : Hp) (J : It) (s : Src) : Prop := ∀ ρ H h, Le K ρ0 H0 ρ H → RHp K mg ρ H h →
  (∀ i d, s.items[i]? = some d → s.at' i d h → J.go i H ∧ ∀ x H', J.yld i H x H' → Le K ρ H ρ H' ∧ RHp K mg ρ H' h ∧ RV K mg ρ H' x d) ∧ (s.fin s.items.length h → J.stop s.items.length H)
def TMi (W : WX) (m : Sg → Mh → R Src) : TI := fun σ H Q => ∃ ρ sg h, RSt K mg ρ H σ sg ∧ RHp K mg ρ H h ∧ WG K mg (SrcOk K mg) W σ Q ρ H (m sg h)
end
structure PIM (X : Cx) (W : WX) (tg e : Expr) (m : Sg → Mh → R Src) : Prop where
  pi : PI X tg e (TMi X.K X.mg W m)
open Classical in
noncomputable def forL (s : Src) (g : D → Sg → Option Sg) (body : Sg → Mh → RS) : List D → Nat → Sg → Mh → RS
  | [], i, sg, h => if s.fin i h then .nx sg h else .bad
  | x :: xs, i, sg, h => if s.at' i x h then match g x sg with
    | some sg1 => match body sg1 h with
      | .nx sg' h' => forL s g body xs (i + 1) sg' h'
      | .ct sg' h' => forL s g body xs (i + 1) sg' h'
      | .bk sg' h' => .nx sg' h'
      | r => r
    | none => .bad else .bad
noncomputable def sFor (mi : Sg → Mh → R Src) (g : D → Sg → Option Sg) (body : Sg → Mh → RS) : Sg → Mh → RS := fun sg h => (mi sg h).th sg fun s h1 => forL s g body s.items 0 sg h1
section
variable {X : Cx} {W : WX} {tg iter : Expr} {body : List Stmt} {mi : Sg → Mh → R Src} {ts : List Nat} {g : D → Sg → Option Sg} {mb : Sg → Mh → RS} {pos : Pos}
theorem TMi.goS {K mg ρ H σ sg h} {E : Ends} {Q1 : It → Hp → Prop} {m : Sg → Mh → R Src} {f : Src → Mh → RS} (hs : RSt K mg ρ H σ sg) (rh : RHp K mg ρ H h) (w : WS K mg W E ρ H ((m sg h).th sg f))
    (k : ∀ ρ1 H1 h1 v a, Le K ρ H ρ1 H1 → RHp K mg ρ1 H1 h1 → SrcOk K mg ρ1 H1 v a → WS K mg W E ρ1 H1 (f a h1) → Q1 v H1) : TMi K mg W m σ H Q1 := ⟨ρ, sg, h, hs, rh, WS.cutS hs w k⟩
theorem TMi.go {K mg ρ H σ sg h} {γ δ : Type} {rel2 : Ren → Hp → δ → γ → Prop} {Q : δ → Hp → Prop} {Q1 : It → Hp → Prop} {m : Sg → Mh → R Src} {f : Src → Mh → R γ} (hs : RSt K mg ρ H σ sg) (rh : RHp K mg ρ H h) (w : WG K mg rel2 W σ Q ρ H ((m sg h).bind f))
    (k : ∀ ρ1 H1 h1 v a, Le K ρ H ρ1 H1 → RHp K mg ρ1 H1 h1 → SrcOk K mg ρ1 H1 v a → WG K mg rel2 W σ Q ρ1 H1 (f a h1) → Q1 v H1) : TMi K mg W m σ H Q1 := ⟨ρ, sg, h, hs, rh, w.cut k⟩
theorem s_for (hp : PassesOwn (model X.prog X.w) X.A X.env X.xe) (hi : PIM X W tg iter mi) (hg : PGM X tg ts g) (hb : PSL X W body mb) (hc : X.calm = true := by rfl) (hs : ∀ x, foldedSetIterable iter X.env x = pure x := by intro _; rfl) :
    PSM X W (.For tg iter body [] pos) (sFor mi g mb) := ⟨PSimp (ps_for hp hc hi.pi hg.pg hb.ps hs) fun E σ H ⟨ρ, sg, h, hst, rh, w⟩ => by
  refine TMi.goS hst rh w fun ρ1 H1 h1 J s le rh1 so w1 => ?_
  refine ⟨fun i m σ H => m = s.items.length - i ∧ i ≤ s.items.length ∧ ∃ ρ' sg' h', Le X.K ρ1 H1 ρ' H ∧ RSt X.K X.mg ρ' H σ sg' ∧ RHp X.K X.mg ρ' H h' ∧ WS X.K X.mg W E ρ' H (forL s g mb (s.items.drop i) i sg' h'),
    ⟨_, rfl, Nat.zero_le _, ρ1, sg, h1, Le.refl, hst.mono le, rh1, w1⟩, ?_⟩
  rintro i m σ H ⟨rfl, hi, ρ', sg', h', le', hs', rh', w'⟩
  obtain ⟨so1, so2⟩ := so ρ' H h' le' rh'
  by_cases hlt : i < s.items.length
  · rw [List.drop_eq_getElem_cons hlt] at w'
    unfold forL at w'
    split at w'
    · rename_i hat
      obtain ⟨go, yl⟩ := so1 i _ (List.getElem?_eq_getElem hlt) hat
      split at w'
      · rename_i sg1 eg
        refine .inr ⟨go, fun σ2 H2 => ∃ ρ2 sg2 h2, Le X.K ρ1 H1 ρ2 H2 ∧ RSt X.K X.mg ρ2 H2 σ2 sg2 ∧ RHp X.K X.mg ρ2 H2 h2 ∧ WS X.K X.mg W E ρ2 H2 (forL s g mb (s.items.drop (i + 1)) (i + 1) sg2 h2), fun σ2 H2 ⟨ρ2, sg2, h2, a, b, c, d⟩ => ⟨_, by omega, rfl, hlt, ρ2, sg2, h2, a, b, c, d⟩, fun x H2 hy => ?_⟩
        obtain ⟨le2, rh2, rv2⟩ := yl x H2 hy
        refine ⟨ρ', sg', _, sg1, hs'.mono le2, rv2, eg, fun σ3 hs3 _ _ => ⟨ρ', sg1, h', hs3, rh2, ?_⟩⟩
        have w2 := WS.mono le2 w'
        cases e : mb sg1 h' with
        | nx sg4 h4 => rw [e] at w2; exact fun ρ4 H4 σ4 le4 rh4 hs4 => ⟨ρ4, sg4, h4, le'.trans (le2.trans le4), hs4, rh4, WS.mono le4 w2⟩
        | ct sg4 h4 => rw [e] at w2; exact fun ρ4 H4 σ4 le4 rh4 hs4 => ⟨ρ4, sg4, h4, le'.trans (le2.trans le4), hs4, rh4, WS.mono le4 w2⟩
        | bk sg4 h4 => rw [e] at w2; exact fun ρ4 H4 σ4 le4 rh4 hs4 => w2 ρ4 H4 σ4 le4 rh4 hs4
        | rt d h4 => rw [e] at w2; exact w2
        | exc c fs sg4 h4 => rw [e] at w2; exact w2
        | bad => rw [e] at w2; exact w2
      · exact w'.elim
    · exact w'.elim
  · have e : i = s.items.length := by omega
    subst e
    rw [List.drop_length] at w'
    unfold forL at w'
    split at w'
    · rename_i hf
      exact .inl ⟨so2 hf, w'.nxI Le.refl rh' hs'⟩
    · exact w'.elim⟩
/-! while -/
def whileF : Nat := 1000000
def whileL (c : Sg → Mh → R Bool) (body : Sg → Mh → RS) : Nat → Sg → Mh → RS
  | 0, _, _ => .bad
  | n + 1, sg, h => (c sg h).th sg fun b h1 => if b = true then match body sg h1 with
      | .nx sg' h' => whileL c body n sg' h'
      | .ct sg' h' => whileL c body n sg' h'
      | .bk sg' h' => .nx sg' h'
      | r => r
    else .nx sg h1
def sWhile (c : Sg → Mh → R Bool) (body : Sg → Mh → RS) : Sg → Mh → RS := fun sg h => whileL c body whileF sg h
theorem s_while {c : Expr} {nc : Sg → Mh → R Bool} (hp : PassesOwn (model X.prog X.w) X.A X.env X.xe) (hc : PB X W c nc) (hb : PSL X W body mb) : PSM X W (.While c body [] pos) (sWhile nc mb) := ⟨PSimp (ps_while hp hc.pt hb.ps) fun E σ H ⟨ρ, sg, h, hst, rh, w⟩ => by
  refine ⟨fun m σ H => ∃ ρ' sg' h', RSt X.K X.mg ρ' H σ sg' ∧ RHp X.K X.mg ρ' H h' ∧ WS X.K X.mg W E ρ' H (whileL nc mb m sg' h'), ⟨whileF, ρ, sg, h, hst, rh, w⟩, ?_⟩
  rintro m σ H ⟨ρ', sg', h', hs', rh', w'⟩
  cases m with
  | zero => exact w'.elim
  | succ n =>
    unfold whileL at w'
    refine TMb.goS hs' rh' w' fun ρ1 H1 h1 b le rh1 w1 => ?_
    split
    · rename_i hb
      rw [if_pos hb] at w1
      refine ⟨fun σ2 H2 => ∃ ρ2 sg2 h2, RSt X.K X.mg ρ2 H2 σ2 sg2 ∧ RHp X.K X.mg ρ2 H2 h2 ∧ WS X.K X.mg W E ρ2 H2 (whileL nc mb n sg2 h2), fun σ2 H2 z => ⟨n, Nat.lt_succ_self n, z⟩, ρ1, sg', h1, hs'.mono le, rh1, ?_⟩
      cases e : mb sg' h1 with
      | nx sg4 h4 => rw [e] at w1; exact fun ρ4 H4 σ4 le4 rh4 hs4 => ⟨ρ4, sg4, h4, hs4, rh4, WS.mono le4 w1⟩
      | ct sg4 h4 => rw [e] at w1; exact fun ρ4 H4 σ4 le4 rh4 hs4 => ⟨ρ4, sg4, h4, hs4, rh4, WS.mono le4 w1⟩
      | bk sg4 h4 => rw [e] at w1; exact fun ρ4 H4 σ4 le4 rh4 hs4 => w1 ρ4 H4 σ4 le4 rh4 hs4
      | rt d h4 => rw [e] at w1; exact w1
      | exc c fs sg4 h4 => rw [e] at w1; exact w1
      | bad => rw [e] at w1; exact w1
    · rename_i hb
      rw [if_neg hb] at w1
      exact w1.nxI Le.refl rh1 (hs'.mono le)⟩
/-! ### what can be walked -/
/-- a list by its number -/
def lstAt (h : Mh) (n : Nat) (ds : List D) : Prop := h[n]? = some (.lst ds) ∨ h[n]? = some (.fls ds)
def srcL (n : Nat) (ds : List D) : Src := ⟨ds, fun i x h => ∃ es, lstAt h n es ∧ es[i]? = some x, fun i h => ∃ es, lstAt h n es ∧ es.length ≤ i⟩
def srcT (ds : List D) : Src := ⟨ds, fun _ _ _ => True, fun _ _ => True⟩
theorem lstAt.sq {K mg ρ H h} {n : Nat} {a : Addr} {ds : List D} (rh : RHp K mg ρ H h) (e : ρ[n]? = some a) (l : lstAt h n ds) : ∃ vs, SqL K H a vs ∧ RVs K mg ρ H vs ds := by
  rcases l with l | l
  · cases rh.at e l with
    | lst h1 q => exact ⟨_, SqL.of h1, q⟩
  · cases rh.at e l with
    | fls h1 q => exact ⟨_, h1.sq, q⟩
theorem srcL_ok {K mg ρ0 H0} {n : Nat} {a : Addr} {ds : List D} (e : ρ0[n]? = some a) : SrcOk K mg ρ0 H0 (Itl K a) (srcL n ds) := fun ρ H h le rh => by
  have e' := le.pre n a e
  refine ⟨fun i d _ ⟨es, l, hi⟩ => ?_, fun ⟨es, l, hi⟩ => ?_⟩
  · obtain ⟨vs, sq, q⟩ := l.sq rh e'
    obtain ⟨v, e1, rv⟩ := q.get hi
    refine ⟨⟨vs, v, sq, e1⟩, fun x H' ⟨eH, f⟩ => ?_⟩
    subst eH
    have := f vs sq
    rw [e1] at this; cases this
    exact ⟨Le.refl, rh, rv⟩
  · obtain ⟨vs, sq, q⟩ := l.sq rh e'
    exact ⟨vs, sq, by rw [q.length]; exact hi⟩
theorem srcT_ok {K mg ρ0 H0} {a : Addr} {vs : List V} {ds : List D} (t : SqT K H0 a vs) (q : RVs K mg ρ0 H0 vs ds) : SrcOk K mg ρ0 H0 (Itt K a) (srcT ds) := fun ρ H h le rh => by
  have t' := le.tup a vs t
  have q' := q.mono le
  refine ⟨fun i d hi _ => ?_, fun _ => ⟨vs, t', by rw [q.length]; exact Nat.le_refl _⟩⟩
  obtain ⟨v, e1, rv⟩ := q'.get (show ds[i]? = some d from hi)
  refine ⟨⟨vs, v, t', e1⟩, fun x H' ⟨eH, f⟩ => ?_⟩
  subst eH
  have := f vs t'
  rw [e1] at this; cases this
  exact ⟨Le.refl, rh, rv⟩
def srcS (x : Str) : Src := srcT (x.cps.toList.map fun c => .str ⟨#[c]⟩)
theorem srcS_ok {K mg ρ0 H0} {x : Str} : SrcOk K mg ρ0 H0 (Its x) (srcS x) := fun ρ H h le rh => by
  refine ⟨fun i d hi _ => ?_, fun _ => ?_⟩
  · have hi : (x.cps.toList.map fun c => D.str ⟨#[c]⟩)[i]? = some d := hi
    rw [List.getElem?_map] at hi
    cases e : x.cps.toList[i]? with
    | none => rw [e] at hi; cases hi
    | some c =>
      rw [e] at hi; cases hi
      have e2 : x.cps[i]? = some c := by rw [← Array.getElem?_toList]; exact e
      refine ⟨(Array.getElem?_eq_some_iff.mp e2).1, fun y H' ⟨eH, c', e', ey⟩ => ?_⟩
      subst eH ey
      rw [e2] at e'; cases e'
      exact ⟨Le.refl, rh, .str _⟩
  · show x.cps.size ≤ (x.cps.toList.map fun c => D.str ⟨#[c]⟩).length
    simp
def srcR (lo : Int) (n : Nat) : Src := srcT ((List.range n).map fun k : Nat => .int (lo + (k : Int)))
theorem srcR_ok {K mg ρ0 H0} {lo : Int} {n : Nat} : SrcOk K mg ρ0 H0 (Itr lo n) (srcR lo n) := fun ρ H h le rh => by
  refine ⟨fun i d hi _ => ?_, fun _ => ?_⟩
  · have hi : ((List.range n).map fun k : Nat => D.int (lo + (k : Int)))[i]? = some d := hi
    rw [List.getElem?_map] at hi
    cases e : (List.range n)[i]? with
    | none => rw [e] at hi; cases hi
    | some c =>
      rw [e] at hi; cases hi
      obtain ⟨e1, e2⟩ := List.getElem?_eq_some_iff.mp e
      rw [List.getElem_range] at e2
      subst e2
      refine ⟨by have z : i < n := by simpa using e1
                 exact z, fun y H' ⟨eH, ey⟩ => ?_⟩
      subst eH ey
      exact ⟨Le.refl, rh, .int _⟩
  · show n ≤ ((List.range n).map fun k : Nat => D.int (lo + (k : Int))).length
    simp
/-- a value that is walked -/
def dIter (x : D) (h : Mh) : R Src := match x with
  | .tup ds => .ok (srcT ds) h
  | .str z => .ok (srcS z) h
  | .ref n => match h[n]? with
    | some (.lst ds) => .ok (srcL n ds) h
    | some (.fls ds) => .ok (srcL n ds) h
    | _ => .bad
  | _ => .bad
def mIter (m : Sg → Mh → R D) : Sg → Mh → R Src := fun sg h => (m sg h).bind dIter
theorem i_val {e : Expr} {m : Sg → Mh → R D} (he : PM X W e m) : PIM X W tg e (mIter m) := ⟨PIimp (PIor (pi_list he.pe) (PIor (pi_tup he.pe) (pi_str he.pe))) fun σ H Q ⟨ρ, sg, h, hs, rh, w⟩ => by
  -- the value decides which of the three
  have key : ∀ (C : D → Mh → Prop) (Q1 : VK), (∀ d h', m sg h = .ok d h' → C d h') → (∀ ρ1 H1 h1 v d, C d h1 → Le X.K ρ H ρ1 H1 → RHp X.K X.mg ρ1 H1 h1 → RV X.K X.mg ρ1 H1 v d → WG X.K X.mg (SrcOk X.K X.mg) W σ Q ρ1 H1 (dIter d h1) → Q1 v H1) → TM X.K X.mg W m σ H Q1 := fun C Q1 hC k => by
    refine ⟨ρ, sg, h, hs, rh, ?_⟩
    unfold mIter at w
    cases e : m sg h with
    | ok d h' => rw [e] at w; exact fun ρ' H' v le rh' rv => k ρ' H' h' v d (hC d h' e) le rh' rv (w.mono le)
    | exc c fs h' => rw [e] at w; exact w
    | bad => rw [e] at w; exact w
  cases e : m sg h with
  | bad => unfold mIter at w; rw [e] at w; exact w.elim
  | exc c fs h' => exact .inl (key (fun _ _ => False) _ (fun d h' e' => by rw [e] at e'; cases e') fun _ _ _ _ _ z => z.elim)
  | ok d h' =>
    cases d with
    | tup ds =>
      refine .inr (.inl (key (fun d _ => d = .tup ds) _ (fun d h' e' => by rw [e] at e'; cases e'; rfl) fun ρ1 H1 h1 v d z le rh1 rv w1 => ?_))
      subst z
      cases rv with
      | tup t q => exact ⟨_, rfl, ⟨_, t⟩, w1.okI Le.refl rh1 (srcT_ok t q)⟩
    | str z =>
      refine .inr (.inr (key (fun d _ => d = .str z) _ (fun d h' e' => by rw [e] at e'; cases e'; rfl) fun ρ1 H1 h1 v d z le rh1 rv w1 => ?_))
      subst z
      cases rv
      exact ⟨_, rfl, w1.okI Le.refl rh1 srcS_ok⟩
    | ref n =>
      refine .inl (key (fun d _ => d = .ref n) _ (fun d h' e' => by rw [e] at e'; cases e'; rfl) fun ρ1 H1 h1 v d z le rh1 rv w1 => ?_)
      subst z
      cases rv with
      | ref r =>
        simp only [dIter] at w1
        split at w1
        · rename_i e0
          obtain ⟨vs, sq, q⟩ := lstAt.sq rh1 r (.inl e0)
          exact ⟨_, rfl, ⟨vs, sq⟩, w1.okI Le.refl rh1 (srcL_ok r)⟩
        · rename_i e0
          obtain ⟨vs, sq, q⟩ := lstAt.sq rh1 r (.inr e0)
          exact ⟨_, rfl, ⟨vs, sq⟩, w1.okI Le.refl rh1 (srcL_ok r)⟩
        · exact w1.elim
    | _ => unfold mIter at w; rw [e] at w; exact w.elim⟩
def mRange1 (m : Sg → Mh → R D) : Sg → Mh → R Src := fun sg h => (m sg h).bind fun d h1 => match d with
  | .int j => if -(2 ^ 62) ≤ j ∧ j < 2 ^ 62 then .ok (srcR 0 j.toNat) h1 else .bad
  | _ => .bad
theorem i_range1 {a : Expr} {m : Sg → Mh → R D} {p : Pos} (ha : PM X W a m) (hm : X.mg "range" = none) (hg : Gl X "range" := by rfl) (hs : starEach [a] X.env = [(false, eval a X.env)] := by rfl) : PIM X W tg (.Call (.Name "range" p) [a] [] pos) (mRange1 m) :=
  ⟨PIimp (pi_range1 hg hm (l_cons ha l_nil hs).pa hs) fun σ H Q ⟨ρ, sg, h, hst, rh, w⟩ => by
    refine ⟨ρ, sg, h, hst, rh, ?_⟩
    unfold mCons mNil
    have w' : WG X.K X.mg (SrcOk X.K X.mg) W σ Q ρ H (((m sg h).bind fun d h1 => .ok [d] h1).bind fun ds h1 => match ds with
      | [.int j] => if -(2 ^ 62) ≤ j ∧ j < 2 ^ 62 then .ok (srcR 0 j.toNat) h1 else .bad
      | _ => .bad) := by
      unfold mRange1 at w
      rw [R.bind_assoc]
      cases e : m sg h with
      | ok d h' => rw [e] at w; cases d <;> exact w
      | exc c fs h' => rw [e] at w; exact w
      | bad => rw [e] at w; exact w
    refine w'.cut fun ρ1 H1 h1 vs ds le rh1 rvs w1 => ?_
    split at w1
    · split at w1
      · rename_i hz
        cases rvs with
        | cons r t =>
          cases t; cases r
          exact ⟨_, rfl, hz.1, hz.2, w1.okI Le.refl rh1 srcR_ok⟩
      · exact w1.elim
    · exact w1.elim⟩
end
end Mo

namespace Mo
open PySem PySem.Spec PyProof.Rows L2
section
variable {X : Cx} {W : WX} {tg iter : Expr} {ts : List Nat} {g : D → Sg → Option Sg} {pos : Pos}
/-! ### zip, enumerate -/
def zipD : List D → List D → List D
  | x :: xs, y :: ys => .tup [x, y] :: zipD xs ys
  | _, _ => []
theorem zipD_get : ∀ {xs ys : List D} {i : Nat} {d : D}, (zipD xs ys)[i]? = some d → ∃ x y, xs[i]? = some x ∧ ys[i]? = some y ∧ d = .tup [x, y]
  | [], _, _, _, e => by simp [zipD] at e
  | _ :: _, [], _, _, e => by simp [zipD] at e
  | x :: xs, y :: ys, 0, d, e => by simp [zipD] at e; exact ⟨x, y, rfl, rfl, e.symm⟩
  | x :: xs, y :: ys, i + 1, d, e => by
    have e : (zipD xs ys)[i]? = some d := by simpa [zipD] using e
    obtain ⟨a, b, h1, h2, h3⟩ := zipD_get e
    exact ⟨a, b, by simpa using h1, by simpa using h2, h3⟩
theorem zipD_len : ∀ (xs ys : List D), xs.length ≤ (zipD xs ys).length ∨ ys.length ≤ (zipD xs ys).length
  | [], _ => .inl (Nat.zero_le _)
  | _ :: _, [] => .inr (Nat.zero_le _)
  | x :: xs, y :: ys => by
    rcases zipD_len xs ys with h | h
    · exact .inl (Nat.succ_le_succ h)
    · exact .inr (Nat.succ_le_succ h)
def srcZ (n m : Nat) (xs ys : List D) : Src := ⟨zipD xs ys, fun i d h => ∃ x y, d = .tup [x, y] ∧ (srcL n xs).at' i x h ∧ (srcL m ys).at' i y h, fun i h => (∃ es fs, lstAt h n es ∧ lstAt h m fs ∧ (es.length ≤ i ∨ fs.length ≤ i))⟩
theorem srcZ_ok {K mg ρ0 H0} {n m : Nat} {a b : Addr} {xs ys : List D} (ea : ρ0[n]? = some a) (eb : ρ0[m]? = some b) : SrcOk K mg ρ0 H0 (Itz K a b) (srcZ n m xs ys) := fun ρ H h le rh => by
  have ea' := le.pre n a ea
  have eb' := le.pre m b eb
  refine ⟨fun i d hd hat => ?_, fun ⟨es, fs, l1, l2, hl⟩ => ?_⟩
  · obtain ⟨x, y, rfl, ⟨es, l1, hx⟩, fs, l2, hy⟩ := hat
    obtain ⟨vs, s1, q1⟩ := l1.sq rh ea'
    obtain ⟨ws, s2, q2⟩ := l2.sq rh eb'
    obtain ⟨v, e1, r1⟩ := q1.get hx
    obtain ⟨u, e2, r2⟩ := q2.get hy
    refine ⟨⟨vs, ws, v, u, s1, s2, e1, e2⟩, fun z H' ⟨T, x', y', ez, hT, eH, f1, f2⟩ => ?_⟩
    subst ez eH
    have g1 := f1 vs s1
    have g2 := f2 ws s2
    rw [e1] at g1; cases g1
    rw [e2] at g2; cases g2
    exact ⟨Le.new hT, rh.made hT, .tup (SqT.of upd_same) ((RVs.cons r1 (.cons r2 .nil)).mono (Le.new hT))⟩
  · obtain ⟨vs, s1, q1⟩ := l1.sq rh ea'
    obtain ⟨ws, s2, q2⟩ := l2.sq rh eb'
    exact ⟨vs, ws, s1, s2, by rw [q1.length, q2.length]; exact hl⟩
theorem srcZT_ok {K mg ρ0 H0} {a b : Addr} {vs ws : List V} {xs ys : List D} (ta : SqT K H0 a vs) (qa : RVs K mg ρ0 H0 vs xs) (tb : SqT K H0 b ws) (qb : RVs K mg ρ0 H0 ws ys) : SrcOk K mg ρ0 H0 (RZ.ItzT K a b) (srcT (zipD xs ys)) := fun ρ H h le rh => by
  have ta' := le.tup a vs ta
  have tb' := le.tup b ws tb
  have qa' := qa.mono le
  have qb' := qb.mono le
  refine ⟨fun i d hd _ => ?_, fun _ => ⟨vs, ws, ta', tb', by rw [qa'.length, qb'.length]; exact zipD_len xs ys⟩⟩
  obtain ⟨x, y, hx, hy, rfl⟩ := zipD_get (show (zipD xs ys)[i]? = some d from hd)
  obtain ⟨v, e1, r1⟩ := qa'.get hx
  obtain ⟨u, e2, r2⟩ := qb'.get hy
  refine ⟨⟨vs, ws, v, u, ta', tb', e1, e2⟩, fun z H' ⟨T, x', y', ez, hT, eH, f1, f2⟩ => ?_⟩
  subst ez eH
  have g1 := f1 vs ta'
  have g2 := f2 ws tb'
  rw [e1] at g1; cases g1
  rw [e2] at g2; cases g2
  exact ⟨Le.new hT, rh.made hT, .tup (SqT.of upd_same) ((RVs.cons r1 (.cons r2 .nil)).mono (Le.new hT))⟩
def lstOf (h : Mh) (n : Nat) : Option (List D) := match h[n]? with
  | some (.lst ds) => some ds
  | some (.fls ds) => some ds
  | _ => none
theorem lstOf_at {h : Mh} {n : Nat} {ds : List D} (e : lstOf h n = some ds) : lstAt h n ds := by
  unfold lstOf at e
  split at e
  · cases e; exact .inl (by assumption)
  · cases e; exact .inr (by assumption)
  · cases e
def dZip (ds : List D) (h : Mh) : R Src := match ds with
  | [.ref n, .ref m] => match lstOf h n, lstOf h m with
    | some xs, some ys => .ok (srcZ n m xs ys) h
    | _, _ => .bad
  | [.tup xs, .tup ys] => .ok (srcT (zipD xs ys)) h
  | _ => .bad
def mZip (ml : Sg → Mh → R (List D)) : Sg → Mh → R Src := fun sg h => (ml sg h).bind dZip
theorem i_zip {e e2 : Expr} {ml : Sg → Mh → R (List D)} {p tpos : Pos} {elts : List Expr} {kk : Nat} (hm : X.mg "zip" = none) (ha : PL X W [e, e2] ml) (hg : Gl X "zip" := by rfl)
    (hs : starEach [e, e2] X.env = (false, eval e X.env) :: starEach [e2] X.env := by rfl) (hpl : (backTo pos (starEach [e2] X.env)).any (·.1) = false := by rfl) : PIM X W (.Tuple elts kk tpos) (.Call (.Name "zip" p) [e, e2] [] pos) (mZip ml) :=
  ⟨PIimp (RZ.pi_zipA hg hm ha.pa hs hpl) fun σ H Q ⟨ρ, sg, h, hst, rh, w⟩ => TMl.go hst rh w fun ρ1 H1 h1 vs ds le rh1 rvs w1 => by
    unfold dZip at w1
    split at w1
    · split at w1
      · rename_i e1 e2
        cases rvs with
        | cons r1 t => cases t with
          | cons r2 t =>
            cases t
            cases r1 with
            | ref r1 => cases r2 with
              | ref r2 =>
                obtain ⟨v1, s1, q1⟩ := (lstOf_at e1).sq rh1 r1
                obtain ⟨v2, s2, q2⟩ := (lstOf_at e2).sq rh1 r2
                exact ⟨_, _, v1, v2, rfl, .inl ⟨s1, s2, w1.okI Le.refl rh1 (srcZ_ok r1 r2)⟩⟩
      · exact w1.elim
    · cases rvs with
      | cons r1 t => cases t with
        | cons r2 t =>
          cases t
          cases r1 with
          | tup t1 q1 => cases r2 with
            | tup t2 q2 => exact ⟨_, _, _, _, rfl, .inr ⟨t1, t2, w1.okI Le.refl rh1 (srcZT_ok t1 q1 t2 q2)⟩⟩
    · exact w1.elim⟩
def enumD : Nat → List D → List D
  | _, [] => []
  | k, x :: xs => .tup [.int (k : Int), x] :: enumD (k + 1) xs
theorem enumD_get : ∀ {xs : List D} {k i : Nat} {d : D}, (enumD k xs)[i]? = some d → ∃ x, xs[i]? = some x ∧ d = .tup [.int ((k + i : Nat) : Int), x]
  | [], _, _, _, e => by simp [enumD] at e
  | x :: xs, k, 0, d, e => by simp [enumD] at e; exact ⟨x, rfl, e.symm⟩
  | x :: xs, k, i + 1, d, e => by
    have e : (enumD (k + 1) xs)[i]? = some d := by simpa [enumD] using e
    obtain ⟨a, h1, h3⟩ := enumD_get e
    exact ⟨a, by simpa using h1, by rw [h3, show k + 1 + i = k + (i + 1) by omega]⟩
theorem enumD_len : ∀ (xs : List D) (k : Nat), (enumD k xs).length = xs.length
  | [], _ => rfl
  | x :: xs, k => congrArg (· + 1) (enumD_len xs (k + 1))
def srcE (n : Nat) (xs : List D) : Src := ⟨enumD 0 xs, fun i d h => ∃ x, d = .tup [.int (i : Int), x] ∧ (srcL n xs).at' i x h, fun i h => ∃ es, lstAt h n es ∧ es.length ≤ i⟩
theorem srcE_ok {K mg ρ0 H0} {n : Nat} {a : Addr} {xs : List D} (ea : ρ0[n]? = some a) : SrcOk K mg ρ0 H0 (Ite K a) (srcE n xs) := fun ρ H h le rh => by
  have ea' := le.pre n a ea
  refine ⟨fun i d hd hat => ?_, fun ⟨es, l1, hl⟩ => ?_⟩
  · obtain ⟨x, rfl, es, l1, hx⟩ := hat
    obtain ⟨vs, s1, q1⟩ := l1.sq rh ea'
    obtain ⟨v, e1, r1⟩ := q1.get hx
    refine ⟨⟨vs, v, s1, e1⟩, fun z H' ⟨T, x', ez, hT, eH, f1⟩ => ?_⟩
    subst ez eH
    have g1 := f1 vs s1
    rw [e1] at g1; cases g1
    exact ⟨Le.new hT, rh.made hT, .tup (SqT.of upd_same) ((RVs.cons (.int _) (.cons r1 .nil)).mono (Le.new hT))⟩
  · obtain ⟨vs, s1, q1⟩ := l1.sq rh ea'
    exact ⟨vs, s1, by rw [q1.length]; exact hl⟩
def dEnum (ds : List D) (h : Mh) : R Src := match ds with
  | [.ref n] => match lstOf h n with
    | some xs => .ok (srcE n xs) h
    | _ => .bad
  | _ => .bad
def mEnum (ml : Sg → Mh → R (List D)) : Sg → Mh → R Src := fun sg h => (ml sg h).bind dEnum
theorem i_enum {e : Expr} {ml : Sg → Mh → R (List D)} {p tpos : Pos} {elts : List Expr} {kk : Nat} (hm : X.mg "enumerate" = none) (ha : PL X W [e] ml) (hg : Gl X "enumerate" := by rfl) (hs : starEach [e] X.env = [(false, eval e X.env)] := by rfl) :
    PIM X W (.Tuple elts kk tpos) (.Call (.Name "enumerate" p) [e] [] pos) (mEnum ml) :=
  ⟨PIimp (pi_enum hg hm ha.pa hs) fun σ H Q ⟨ρ, sg, h, hst, rh, w⟩ => TMl.go hst rh w fun ρ1 H1 h1 vs ds le rh1 rvs w1 => by
    unfold dEnum at w1
    split at w1
    · split at w1
      · rename_i e1
        cases rvs with
        | cons r1 t =>
          cases t
          cases r1 with
          | ref r1 =>
            obtain ⟨v1, s1, q1⟩ := (lstOf_at e1).sq rh1 r1
            exact ⟨_, v1, rfl, s1, w1.okI Le.refl rh1 (srcE_ok r1)⟩
      · exact w1.elim
    · exact w1.elim⟩
/-! ### list comprehensions -/
def wipeD (sg : Sg) : List Nat → Sg
  | [] => sg
  | v :: vs => (wipeD sg vs).set v none
theorem RSt.wipe {K mg ρ H} {σ : L2.St} {sg : Sg} (r : RSt K mg ρ H σ sg) : ∀ vs : List Nat, RSt K mg ρ H (wipe σ vs) (wipeD sg vs)
  | [] => r
  | v :: vs => by
    have ih := RSt.wipe r vs
    unfold L2.wipe wipeD
    refine ⟨by simp [ih.len], fun j d e => ?_⟩
    by_cases hj : v = j
    · subst hj
      by_cases hi : v < (wipeD sg vs).length
      · rw [List.getElem?_set_self hi] at e; cases e
      · rw [List.getElem?_eq_none (by simpa using hi)] at e; cases e
    · rw [List.getElem?_set_ne hj] at e ⊢
      exact ih.val j d e
theorem wipe_get (σ : L2.St) (j : Nat) : ∀ vs : List Nat, (wipe σ vs)[j]? = if j ∈ vs ∧ j < σ.length then some none else σ[j]?
  | [] => by simp [L2.wipe]
  | v :: vs => by
    have ih := wipe_get σ j vs
    unfold L2.wipe
    by_cases hj : v = j
    · subst hj
      by_cases hv : v < σ.length
      · rw [List.getElem?_set_self (by rw [L2.wipe_length]; exact hv), if_pos ⟨by simp, hv⟩]
      · rw [List.getElem?_eq_none (by simpa [L2.wipe_length] using hv), if_neg (fun z => hv z.2), List.getElem?_eq_none (by simpa using hv)]
    · rw [List.getElem?_set_ne hj, ih]
      by_cases hm : j ∈ vs ∧ j < σ.length
      · rw [if_pos hm, if_pos ⟨List.mem_cons_of_mem _ hm.1, hm.2⟩]
      · rw [if_neg hm, if_neg (fun z => hm ⟨by rcases List.mem_cons.mp z.1 with e | e; exact absurd e.symm hj; exact e, z.2⟩)]
theorem wipe_ext {vs : List Nat} {σ τ : L2.St} (h : ∀ j, j ∉ vs → σ[j]? = τ[j]?) (hl : σ.length = τ.length) : wipe σ vs = wipe τ vs := List.ext_getElem? fun j => by
  rw [wipe_get, wipe_get, hl]
  by_cases hm : j ∈ vs
  · by_cases hj : j < τ.length
    · rw [if_pos ⟨hm, hj⟩, if_pos ⟨hm, hj⟩]
    · rw [if_neg (fun z => hj z.2), if_neg (fun z => hj z.2), List.getElem?_eq_none (by rw [hl]; omega), List.getElem?_eq_none (by omega)]
  · rw [if_neg (fun z => hm z.1), if_neg (fun z => hm z.1)]
    exact h j hm
theorem wipe_wipe (σ : L2.St) (vs : List Nat) : wipe (wipe σ vs) vs = wipe σ vs := List.ext_getElem? fun j => by
  rw [wipe_get, wipe_get, L2.wipe_length]
  by_cases hm : j ∈ vs ∧ j < σ.length
  · rw [if_pos hm]
    split <;> rfl
  · rw [if_neg hm]
def R.nox {α : Type} : R α → R α
  | .exc _ _ _ => .bad
  | r => r
/-- the clause's tests -/
structure PTM (X : Cx) (W : WX) (ifs : List Expr) (m : Sg → Mh → R Bool) : Prop where
  pts : PTs X ifs (TMb X.K X.mg W m)
def mYes : Sg → Mh → R Bool := fun _ h => .ok true h
theorem PTsimp {X : Cx} {e : List Expr} {t t' : TT} (h : PTs X e t) (i : ∀ σ H Q, t' σ H Q → t σ H Q) : PTs X e t' := ⟨fun pins s σ H Q I hw => h.run pins s σ H Q I (i _ _ _ hw)⟩
theorem c_nil : PTM X W [] mYes := ⟨PTsimp pts_nil fun σ H Q ⟨ρ, sg, h, hs, rh, w⟩ => w.okI Le.refl rh rfl⟩
theorem c_one {c : Expr} {m : Sg → Mh → R Bool} (hc : PB X W c m) : PTM X W [c] m := ⟨pts_one hc.pt⟩
open Classical in
noncomputable def lcL (s : Src) (g : D → Sg → Option Sg) (mt : Sg → Mh → R Bool) (me : Sg → Mh → R D) (sg : Sg) (n : Nat) : List D → Nat → Mh → R D
  | [], i, h => if s.fin i h then .ok (.ref n) h else .bad
  | x :: xs, i, h => if s.at' i x h then match g x sg with
    | some sg1 => (mt sg1 h).nox.bind fun b h1 => if b = true then (me sg1 h1).nox.bind fun y h2 => match h2[n]? with
        | some (.lst acc) => if acc.length < sizeLine then lcL s g mt me sg n xs (i + 1) (h2.set n (.lst (acc ++ [y]))) else .bad
        | _ => .bad
      else lcL s g mt me sg n xs (i + 1) h1
    | none => .bad else .bad
noncomputable def mLc (mi : Sg → Mh → R Src) (g : D → Sg → Option Sg) (mt : Sg → Mh → R Bool) (me : Sg → Mh → R D) (vs : List Nat) : Sg → Mh → R D := fun sg h => (mi sg h).bind fun s h1 => lcL s g mt me (wipeD sg vs) h1.length s.items 0 (h1 ++ [.lst []])
abbrev W0 : WX := fun _ _ _ _ => False
theorem WG.noxI {K mg} {α β : Type} {W W' : WX} {σ σ' : L2.St} {γ δ : Type} {rel : Ren → Hp → β → α → Prop} {rel2 : Ren → Hp → δ → γ → Prop} {Q : δ → Hp → Prop} {Q1 : β → Hp → Prop} {ρ : Ren} {H : Hp} {r : R α} {f : α → Mh → R γ} (w : WG K mg rel2 W σ Q ρ H (r.nox.bind f))
    (k : ∀ ρ1 H1 h1 v a, Le K ρ H ρ1 H1 → RHp K mg ρ1 H1 h1 → rel ρ1 H1 v a → WG K mg rel2 W σ Q ρ1 H1 (f a h1) → Q1 v H1) : WG K mg rel W' σ' Q1 ρ H r := by
  cases r with
  | ok a h' => exact fun ρ' H' v l rh rv => k ρ' H' h' v a l rh rv (w.mono l)
  | exc c fs h' => exact w.elim
  | bad => exact w
theorem lc_reads {own : List (Str × Nat)} {mt : Sg → Mh → R Bool} {me : Sg → Mh → R D} {mi : Sg → Mh → R Src} {σ : L2.St} {H : Hp} {Q : VK} (hts : ∀ j ∈ ts, j ∈ own.map (·.2)) (w : TM X.K X.mg W (mLc mi g mt me (own.map (·.2))) σ H Q) :
    tLc (TMi X.K X.mg W mi) (TMg X.K X.mg ts g) (TMb X.K X.mg W0 mt) (TM X.K X.mg W0 me) (own.map (·.2)) σ H Q := by
  obtain ⟨ρ, sg, h, hs, rh, w⟩ := w
  refine TMi.go hs rh w fun ρ1 H1 h1 J s le rh1 so w1 => fun D hD => ?_
  generalize hvs : own.map (·.2) = vs at *
  have rh2 : RHp X.K X.mg (ρ1 ++ [D]) (upd H1 D (.lst [])) (h1 ++ [.lst []]) := rh1.grow hD (RO.newList hD .nil)
  have le2 : Le X.K ρ1 H1 (ρ1 ++ [D]) (upd H1 D (.lst [])) := Le.grow hD
  have hn : (ρ1 ++ [D])[h1.length]? = some D := rh1.at_new
  refine ⟨fun i m H => m = s.items.length - i ∧ i ≤ s.items.length ∧ ∃ ρ' h', Le X.K (ρ1 ++ [D]) (upd H1 D (.lst [])) ρ' H ∧ RHp X.K X.mg ρ' H h' ∧ WV X.K X.mg W σ Q ρ' H (lcL s g mt me (wipeD sg vs) h1.length (s.items.drop i) i h'),
    ⟨_, rfl, Nat.zero_le _, _, _, Le.refl, rh2, w1.mono le2⟩, ?_⟩
  rintro i m H ⟨rfl, hi, ρ', h', le', rh', w'⟩
  obtain ⟨so1, so2⟩ := so ρ' H h' (le2.trans le') rh'
  have hn' : ρ'[h1.length]? = some D := le'.pre _ _ hn
  have hsW : RSt X.K X.mg ρ' H (wipe σ vs) (wipeD sg vs) := (hs.mono (le.trans (le2.trans le'))).wipe vs
  by_cases hlt : i < s.items.length
  · rw [List.drop_eq_getElem_cons hlt] at w'
    unfold lcL at w'
    split at w'
    · rename_i hat
      obtain ⟨go, yl⟩ := so1 i _ (List.getElem?_eq_getElem hlt) hat
      split at w'
      · rename_i sg1 eg
        refine .inr ⟨go, fun H2 => ∃ ρ2 h2, Le X.K (ρ1 ++ [D]) (upd H1 D (.lst [])) ρ2 H2 ∧ RHp X.K X.mg ρ2 H2 h2 ∧ WV X.K X.mg W σ Q ρ2 H2 (lcL s g mt me (wipeD sg vs) h1.length (s.items.drop (i + 1)) (i + 1) h2), fun H2 ⟨ρ2, h2, a, b, c⟩ => ⟨_, by omega, rfl, hlt, ρ2, h2, a, b, c⟩, fun x H2 hy => ?_⟩
        obtain ⟨le3, rh3, rv3⟩ := yl x H2 hy
        refine ⟨ρ', _, _, sg1, hsW.mono le3, rv3, eg, fun σ3 hs3 l3 k3 => ⟨?_, ?_⟩⟩
        · rw [← wipe_wipe σ vs]
          exact wipe_ext (fun j hj => k3 j fun z => hj (hts j z)) l3
        · have w3 := WG.mono le3 w'
          refine ⟨ρ', sg1, h', hs3, rh3, w3.noxI fun ρ4 H4 h4 b b' le4 rh4 e w4 => ?_⟩
          subst e
          split
          · rename_i hb
            rw [if_pos hb] at w4
            refine ⟨ρ4, sg1, h4, hs3.mono le4, rh4, w4.noxI fun ρ5 H5 h5 y y' le5 rh5 ry w5 => ?_⟩
            split at w5
            · rename_i acc e5
              split at w5
              · rename_i hz
                have hn5 : ρ5[h1.length]? = some D := le5.pre _ _ (le4.pre _ _ hn')
                cases rh5.at hn5 e5 with
                | lst hD5 q5 =>
                  refine ⟨_, hD5, by rw [q5.length]; exact hz, ρ5, _, le'.trans (le3.trans (le4.trans (le5.trans (Le.write hD5 trivial)))), rh5.write hn5 e5 rfl rfl hD5 trivial (.lst upd_same ((q5.append (.cons ry .nil)).mono (Le.write hD5 trivial))), w5.mono (Le.write hD5 trivial)⟩
              · exact w5.elim
            · exact w5.elim
          · rename_i hb
            rw [if_neg hb] at w4
            exact ⟨ρ4, h4, le'.trans (le3.trans le4), rh4, w4⟩
      · exact w'.elim
    · exact w'.elim
  · have e : i = s.items.length := by omega
    subst e
    rw [List.drop_length] at w'
    unfold lcL at w'
    split at w'
    · rename_i hf
      exact .inl ⟨so2 hf, w'.okI Le.refl rh' (.ref hn')⟩
    · exact w'.elim
end
end Mo

namespace Mo
open PySem PySem.Spec PyProof.Rows L2
section
variable {X : Cx} {W : WX} {tg iter elt : Expr} {ifs : List Expr} {scope : Scope} {own : List (Str × Nat)} {ts : List Nat} {g : D → Sg → Option Sg} {mi : Sg → Mh → R Src} {mt : Sg → Mh → R Bool} {me : Sg → Mh → R D} {pos spos : Pos}
theorem q_lc (own : List (Str × Nat)) (hN : X.N.Nodup) (hi : PIM X W tg iter mi) (ok : BlkOk X.N X.env.scope scope own)
    (hg : ∀ (s : Shared) (H : Hp) (C : Addr) (cl : List (Str × Addr)) (fp : List Addr), PGM (X.blk s H scope (compEnvC scope cl C X.env) fp) tg ts g)
    (ht : ∀ (s : Shared) (H : Hp) (C : Addr) (cl : List (Str × Addr)) (fp : List Addr), PTM (X.blk s H scope (compEnvC scope cl C X.env) fp) W0 ifs mt)
    (he : ∀ (s : Shared) (H : Hp) (C : Addr) (cl : List (Str × Addr)) (fp : List Addr), PM (X.blk s H scope (compEnvC scope cl C X.env) fp) W0 elt me)
    (hts : ∀ j ∈ ts, j ∈ own.map (·.2) := by decide) (hc : X.calm = true := by rfl) (hs : ∀ x, foldedSetIterable iter X.env x = pure x := by intro _; rfl) :
    PM X W (.ListComp elt [⟨tg, iter, ifs, 0⟩] scope pos) (mLc mi g mt me (own.map (·.2))) :=
  ⟨PEimp (pe_lc hc hN hi.pi ok (fun s H C cl fp => (hg s H C cl fp).pg) (fun s H C cl fp => (ht s H C cl fp).pts) (fun s H C cl fp => (he s H C cl fp).pe) hs) fun σ H Q w => lc_reads hts w⟩
theorem s_lc (i : Nat) (own : List (Str × Nat)) {y : Str} {py : Pos} (hN : X.N.Nodup) (hi : PIM X W tg iter mi) (ok : BlkOk X.N X.env.scope scope own)
    (hg : ∀ (s : Shared) (H : Hp) (C : Addr) (cl : List (Str × Addr)) (fp : List Addr), PGM (X.blk s H scope (compEnvC scope cl C X.env) fp) tg ts g)
    (ht : ∀ (s : Shared) (H : Hp) (C : Addr) (cl : List (Str × Addr)) (fp : List Addr), PTM (X.blk s H scope (compEnvC scope cl C X.env) fp) W0 ifs mt)
    (he : ∀ (s : Shared) (H : Hp) (C : Addr) (cl : List (Str × Addr)) (fp : List Addr), PM (X.blk s H scope (compEnvC scope cl C X.env) fp) W0 elt me)
    (hsw : swapsWith (.ListComp elt [⟨tg, iter, ifs, 0⟩] scope pos) (some (.Name y py)) spos.line X.env = pure true) (hts : ∀ j ∈ ts, j ∈ own.map (·.2) := by decide) (hy : X.N[i]? = some y := by rfl) (hyl : X.env.scope.names.lookup y = some .local := by rfl)
    (hc : X.calm = true := by rfl) (hs : ∀ x, foldedSetIterable iter X.env x = pure x := by intro _; rfl) :
    PSM X W (.Assign [.Name y py] (.ListComp elt [⟨tg, iter, ifs, 0⟩] scope pos) spos) (sSet i (mLc mi g mt me (own.map (·.2)))) :=
  ⟨PSimp (ps_setLc hc hN hy hyl hsw hi.pi ok (fun s H C cl fp => (hg s H C cl fp).pg) (fun s H C cl fp => (ht s H C cl fp).pts) (fun s H C cl fp => (he s H C cl fp).pe) hs) fun E σ H ⟨ρ, sg, h, hst, rh, w⟩ =>
    lc_reads (W := W) (Q := fun x H1 => gName i x σ H1 E.nx) hts (TM.goS hst rh w fun ρ1 H1 h1 v d le rh1 rv w1 => w1.nxI Le.refl rh1 ((hst.mono le).set i rv))⟩
end
/-! ### stores to lists and dicts -/
def putD (kvs : List (Key × D)) (k : Key) (v : D) : List (Key × D) := if kvs.any fun kv => decide (kv.1 = k) then kvs.map fun kv => if kv.1 = k then (kv.1, v) else kv else kvs ++ [(k, v)]
section
variable {X : Cx} {W : WX} {o i e : Expr} {mo mi mv : Sg → Mh → R D} {pos pos' : Pos}
def dPutL (x k v : D) (h : Mh) : Option Mh := match x, k with
  | .ref n, .int z => match h[n]? with
    | some (.lst xs) => (ixN xs.length z).map fun j => h.set n (.lst (xs.set j v))
    | _ => none
  | _, _ => none
def dPutD (x k v : D) (h : Mh) : Option Mh := match x, keyD k with
  | .ref n, some key => match h[n]? with
    | some (.dk kvs) => if kvs.length < sizeLine then some (h.set n (.dk (putD kvs key v))) else none
    | _ => none
  | _, _ => none
def toRS (sg : Sg) : Option Mh → RS
  | some h => .nx sg h
  | none => .bad
def sPut (f : D → D → D → Mh → Option Mh) (mo mi mv : Sg → Mh → R D) : Sg → Mh → RS := fun sg h => (mv sg h).th sg fun v h1 => (mo sg h1).th sg fun x h2 => (mi sg h2).th sg fun k h3 => toRS sg (f x k v h3)
theorem s_putL (ho : PM X W o mo) (hi : PM X W i mi) (hv : PM X W e mv) (ha : ∀ v, assign (.Subscript o i pos') X.env v = (do
      let ov ← holding [v] (eval o X.env)
      let iv ← holding [v, ov] (eval i X.env)
      standAt pos'
      holding [v, ov, iv] (setItem ov iv v)
      release [v, ov, iv] []) := by intro _; rfl) (hs : swapsWithSole [.Subscript o i pos'] e pos.line X.env = pure false := by rfl) (hw : swappedStores [.Subscript o i pos'] e X.env = pure none := by rfl)
    (h1 : (assignEach [.Subscript o i pos'] X.env).map (·.2) = [assign (.Subscript o i pos') X.env] := by rfl) :
    PSM X W (.Assign [.Subscript o i pos'] e pos) (sPut dPutL mo mi mv) :=
  ⟨PSimp (ps_asg hv.pe (pg_sub ho.pe hi.pe set_list ha) hs hw h1) fun E σ H ⟨ρ, sg, h, hst, rh, w⟩ => TM.goS hst rh w fun ρ1 H1 h1 v d le rh1 rv w1 => TM.goS (hst.mono le) rh1 w1 fun ρ2 H2 h2 x dx le2 rh2 rx w2 => TM.goS ((hst.mono le).mono le2) rh2 w2 fun ρ3 H3 h3 k dk le3 rh3 rk w3 => by
    unfold dPutL at w3
    split at w3
    · rename_i n z
      split at w3
      · rename_i xs e0
        cases ej : ixN xs.length z with
        | none => rw [ej] at w3; exact w3.elim
        | some j =>
          rw [ej] at w3
          cases rk
          have rx3 := rx.mono le3
          cases rx3 with
          | ref r =>
            cases rh3.at r e0 with
            | lst hl q =>
              rename_i vs
              have le4 : Le X.K ρ3 H3 ρ3 (upd H3 _ (.lst (vs.set j v))) := Le.write hl trivial
              exact ⟨_, _, _, _, rfl, rfl, hl, by rw [q.length]; exact ej, w3.nxI le4 (rh3.write r e0 rfl rfl hl trivial (.lst upd_same ((q.set _ (rv.mono (le2.trans le3))).mono le4))) (((hst.mono le).mono le2).mono (le3.trans le4))⟩
      · exact w3.elim
    · exact w3.elim⟩
theorem any_keys {k : Key} : ∀ {kvs : List (Key × V)} {kds : List (Key × D)}, kvs.map (·.1) = kds.map (·.1) → (kvs.any fun kv => decide (kv.1 = k)) = kds.any fun kv => decide (kv.1 = k)
  | [], [], _ => rfl
  | [], _ :: _, e => by cases e
  | _ :: _, [], e => by cases e
  | p :: kvs, q :: kds, e => by
    have e1 : p.1 = q.1 := (List.cons.inj e).1
    rw [List.any_cons, List.any_cons, any_keys (List.cons.inj e).2, e1]
theorem put_of {K mg ρ H} {k : Key} {v : V} {d : D} (rv : RV K mg ρ H v d) {kvs : List (Key × V)} {kds : List (Key × D)} (e : kvs.map (·.1) = kds.map (·.1)) (r : RVs K mg ρ H (kvs.map (·.2)) (kds.map (·.2))) :
    (putK kvs k v).map (·.1) = (putD kds k d).map (·.1) ∧ RVs K mg ρ H ((putK kvs k v).map (·.2)) ((putD kds k d).map (·.2)) := by
  have ha := any_keys (k := k) e
  unfold putK putD
  rw [ha]
  split
  · clear ha
    rename_i hany
    clear hany
    induction kvs generalizing kds with
    | nil => cases kds with
      | nil => exact ⟨rfl, .nil⟩
      | cons _ _ => cases e
    | cons p kvs ih => cases kds with
      | nil => cases e
      | cons q kds =>
        have e1 : p.1 = q.1 := (List.cons.inj e).1
        cases r with
        | cons r1 t =>
          obtain ⟨i1, i2⟩ := ih (List.cons.inj e).2 t
          by_cases hq : q.1 = k
          · refine ⟨?_, ?_⟩
            · simp only [List.map_cons, e1, hq, if_true]; rw [i1]
            · simp only [List.map_cons, e1, hq, if_true]; exact .cons rv i2
          · refine ⟨?_, ?_⟩
            · simp only [List.map_cons, e1, hq, if_false]; rw [i1]
            · simp only [List.map_cons, e1, hq, if_false]; exact .cons r1 i2
  · refine ⟨?_, ?_⟩
    · rw [List.map_append, List.map_append, e]; rfl
    · rw [List.map_append, List.map_append]
      exact r.append (.cons rv .nil)
theorem same_len {kvs : List (Key × V)} {kds : List (Key × D)} (e : kvs.map (·.1) = kds.map (·.1)) : kvs.length = kds.length := by
  have := congrArg List.length e
  simpa using this
theorem s_putD (hu : X.A.units + 1 < cLine) (ho : PM X W o mo) (hi : PM X W i mi) (hv : PM X W e mv) (hs : swapsWith e (some (.Subscript o i pos')) pos.line X.env = pure false := by rfl) :
    PSM X W (.Assign [.Subscript o i pos'] e pos) (sPut dPutD mo mi mv) :=
  ⟨PSimp (ps_dput hu ho.pe hi.pe hv.pe hs) fun E σ H ⟨ρ, sg, h, hst, rh, w⟩ => TM.goS hst rh w fun ρ1 H1 h1 v d le rh1 rv w1 => TM.goS (hst.mono le) rh1 w1 fun ρ2 H2 h2 x dx le2 rh2 rx w2 => TM.goS ((hst.mono le).mono le2) rh2 w2 fun ρ3 H3 h3 k dk le3 rh3 rk w3 => by
    unfold dPutD at w3
    split at w3
    · rename_i n key ek
      split at w3
      · rename_i kds e0
        split at w3
        · rename_i hz
          have rx3 := rx.mono le3
          cases rx3 with
          | ref r =>
            cases rh3.at r e0 with
            | @dk kvs _ hl ke q =>
              have le4 : Le X.K ρ3 H3 ρ3 (upd H3 _ (.dK (putK kvs key v))) := Le.write hl trivial
              obtain ⟨p1, p2⟩ := put_of (k := key) (rv.mono (le2.trans le3)) ke q
              refine ⟨_, _, rfl, ?_, w3.nxI le4 (rh3.write r e0 rfl rfl hl trivial (.dk upd_same p1 (p2.mono le4))) (((hst.mono le).mono le2).mono (le3.trans le4))⟩
              rw [key_of rk ek]
              exact DPut.k hl (by rw [same_len ke]; exact hz)
        · exact w3.elim
      · exact w3.elim
    · exact w3.elim⟩
theorem rk_isSome {K mg ρ H} : ∀ {ov : Option V} {od : Option D}, RK K mg ρ H ov od → ov.isSome = od.isSome
  | _, _, .none => rfl
  | _, _, .some _ => rfl
theorem rk_some {K mg ρ H} {ov : Option V} {d : D} (z : RK K mg ρ H ov (some d)) : ∃ v, ov = some v ∧ RV K mg ρ H v d := by
  cases z with
  | some r => exact ⟨_, rfl, r⟩
/-! d[k], k in d, {} -/
theorem q_dget {a b : Expr} {ma mb : Sg → Mh → R D} (hu : X.A.units + 1 < cLine) (ha : PM X W a ma) (hb : PM X W b mb) (hs : NoSl b := by intro _ _; rfl) : PM X W (.Subscript a b pos) (m2 dGet ma mb) :=
  ⟨PEimp (pe_dget hu ha.pe hb.pe hs) fun σ H Q ⟨ρ, sg, h, hst, rh, w⟩ => TM.go hst rh w fun ρ1 H1 h1 v d le rh1 rv w1 => TM.go (hst.mono le) rh1 w1 fun ρ2 H2 h2 v2 d2 le2 rh2 rv2 w2 => by
    unfold dGet at w2
    split at w2
    · split at w2
      · rename_i e0 ek
        split at w2
        · rename_i d' ed
          have r := rv.mono le2
          cases r with
          | ref r =>
            cases rh2.at r e0 with
            | @dk kvs _ hl ke q =>
              have z := valD_of (k := by assumption) ke q
              rw [ed] at z
              obtain ⟨v', hv, rz⟩ := rk_some z
              refine ⟨_, v', rfl, ?_, w2.okI Le.refl rh2 rz⟩
              rw [key_of rv2 ek, ← hv]
              exact DGet.k hl
        · exact w2.elim
      · exact w2.elim
    · exact w2.elim⟩
def dDIn (neg : Bool) (k x : D) (h : Mh) : R D := match x, keyD k with
  | .ref n, some key => match h[n]? with
    | some (.dk kvs) => .ok (.bl (if neg then !(valD kvs key).isSome else (valD kvs key).isSome)) h
    | _ => .bad
  | _, _ => .bad
theorem dDIn_of {neg : Bool} {σ : L2.St} {ρ : Ren} {H : Hp} {h : Mh} {Q : VK} {v1 v2 : V} {d1 d2 : D} (rh : RHp X.K X.mg ρ H h) (r1 : RV X.K X.mg ρ H v1 d1) (r2 : RV X.K X.mg ρ H v2 d2) (w : WV X.K X.mg W σ Q ρ H (dDIn neg d1 d2 h)) :
    ∃ a o, v2 = .ref a ∧ DGet H a v1 o ∧ Q (.bl (if neg then !o.isSome else o.isSome)) H := by
  unfold dDIn at w
  split at w
  · rename_i n key ek
    split at w
    · rename_i kds e0
      cases r2 with
      | ref r =>
        cases rh.at r e0 with
        | @dk kvs _ hl ke q =>
          refine ⟨_, valV kvs key, rfl, by rw [key_of r1 ek]; exact DGet.k hl, ?_⟩
          have z := valD_of (k := key) ke q
          have e : (valV kvs key).isSome = (valD kds key).isSome := rk_isSome z
          rw [e]
          exact w.okI Le.refl rh (.bl _)
    · exact w.elim
  · exact w.elim
theorem q_din {a b : Expr} {ma mb : Sg → Mh → R D} (hu : X.A.units + 1 < cLine) (ha : PM X W a ma) (hb : PM X W b mb) (h1 : behindInMarks .In b = false := by with_unfolding_all rfl) : PM X W (.Compare a [.In] [b] pos) (m2 (dDIn false) ma mb) :=
  ⟨PEimp (pe_cmp (pc_din hu ha.pe hb.pe) h1) fun σ H Q ⟨ρ, sg, h, hst, rh, w⟩ => TM.go hst rh w fun ρ1 H1 h1 v d le rh1 rv w1 => TM.go (hst.mono le) rh1 w1 fun ρ2 H2 h2 v2 d2 le2 rh2 rv2 w2 => dDIn_of rh2 (rv.mono le2) rv2 w2⟩
theorem q_dnotin {a b : Expr} {ma mb : Sg → Mh → R D} (hu : X.A.units + 1 < cLine) (ha : PM X W a ma) (hb : PM X W b mb) (h1 : behindInMarks .NotIn b = false := by with_unfolding_all rfl) : PM X W (.Compare a [.NotIn] [b] pos) (m2 (dDIn true) ma mb) :=
  ⟨PEimp (pe_cmp (pc_dnotin hu ha.pe hb.pe) h1) fun σ H Q ⟨ρ, sg, h, hst, rh, w⟩ => TM.go hst rh w fun ρ1 H1 h1 v d le rh1 rv w1 => TM.go (hst.mono le) rh1 w1 fun ρ2 H2 h2 v2 d2 le2 rh2 rv2 w2 => dDIn_of rh2 (rv.mono le2) rv2 w2⟩
theorem tB_of {m : Sg → Mh → R D} {t : TE} (j : ∀ σ H Q, TM X.K X.mg W m σ H Q → t σ H Q) {σ : L2.St} {H : Hp} {Q : Bool → Hp → Prop} (w : TMb X.K X.mg W (mTest m) σ H Q) : tB t σ H Q := tTest_of j w
theorem t_din {a b : Expr} {ma mb : Sg → Mh → R D} (hu : X.A.units + 1 < cLine) (ha : PM X W a ma) (hb : PM X W b mb) (h1 : behindInMarks .In b = false := by with_unfolding_all rfl) : PB X W (.Compare a [.In] [b] pos) (mTest (m2 (dDIn false) ma mb)) :=
  ⟨PTimp (pt_cmp (pc_din hu ha.pe hb.pe) h1) fun σ H Q w => tB_of (fun σ H Q ⟨ρ, sg, h, hst, rh, w⟩ => TM.go hst rh w fun ρ1 H1 h1 v d le rh1 rv w1 => TM.go (hst.mono le) rh1 w1 fun ρ2 H2 h2 v2 d2 le2 rh2 rv2 w2 => dDIn_of rh2 (rv.mono le2) rv2 w2) w⟩
theorem t_dnotin {a b : Expr} {ma mb : Sg → Mh → R D} (hu : X.A.units + 1 < cLine) (ha : PM X W a ma) (hb : PM X W b mb) (h1 : behindInMarks .NotIn b = false := by with_unfolding_all rfl) : PB X W (.Compare a [.NotIn] [b] pos) (mTest (m2 (dDIn true) ma mb)) :=
  ⟨PTimp (pt_cmp (pc_dnotin hu ha.pe hb.pe) h1) fun σ H Q w => tB_of (fun σ H Q ⟨ρ, sg, h, hst, rh, w⟩ => TM.go hst rh w fun ρ1 H1 h1 v d le rh1 rv w1 => TM.go (hst.mono le) rh1 w1 fun ρ2 H2 h2 v2 d2 le2 rh2 rv2 w2 => dDIn_of rh2 (rv.mono le2) rv2 w2) w⟩
def mDNew : Sg → Mh → R D := fun _ h => .ok (.ref h.length) (h ++ [.dk []])
theorem q_dnew : PM X W (.Dict [] [] pos) mDNew := ⟨PEimp pe_dnewK fun σ H Q ⟨ρ, sg, h, hst, rh, w⟩ => fun p hp => w.alloc rh hp (.dk upd_same rfl .nil)⟩
end
end Mo

namespace Mo
open PySem PySem.Spec PyProof.Rows L2
section
variable {X : Cx} {W : WX}
/-! ### built-ins -/
def dLen (ds : List D) (h : Mh) : R D := match ds with
  | [.str z] => if z.length ≤ sizeLine then .ok (.int (z.length : Nat)) h else .bad
  | [.tup xs] => .ok (.int (xs.length : Nat)) h
  | [.ref n] => match h[n]? with
    | some (.lst xs) => .ok (.int (xs.length : Nat)) h
    | some (.fls xs) => .ok (.int (xs.length : Nat)) h
    | some (.dk kvs) => .ok (.int (kvs.length : Nat)) h
    | _ => .bad
  | _ => .bad
theorem call_len2 : CallR X (.builtin "len") (fun xs H Q => (∃ x n, xs = [x] ∧ LenV X.K x H n ∧ Q (.int n) H) ∨ ∃ a kvs, xs = [V.ref a] ∧ H a = some (.dK kvs) ∧ Q (.int kvs.length) H) := CallRor call_len call_lenD
theorem sem_len : SemL X (fun xs H Q => (∃ x n, xs = [x] ∧ LenV X.K x H n ∧ Q (.int n) H) ∨ ∃ a kvs, xs = [V.ref a] ∧ H a = some (.dK kvs) ∧ Q (.int kvs.length) H) dLen := by
  intro W σ ρ H h Q vs ds rh rvs w
  unfold dLen at w
  split at w
  · split at w
    · rename_i hz
      cases rvs with
      | cons r t =>
        cases t; cases r
        exact .inl ⟨_, _, rfl, ⟨hz, rfl⟩, w.okI Le.refl rh (.int _)⟩
    · exact w.elim
  · cases rvs with
    | cons r t =>
      cases t
      cases r with
      | tup t q => exact .inl ⟨_, _, rfl, .inr ⟨_, t, q.length.symm⟩, w.okI Le.refl rh (.int _)⟩
  · cases rvs with
    | cons r t =>
      cases t
      cases r with
      | ref r =>
        split at w
        · rename_i e0
          cases rh.at r e0 with
          | lst h1 q => exact .inl ⟨_, _, rfl, .inl ⟨_, SqL.of h1, q.length.symm⟩, w.okI Le.refl rh (.int _)⟩
        · rename_i e0
          cases rh.at r e0 with
          | fls h1 q => exact .inl ⟨_, _, rfl, .inl ⟨_, h1.sq, q.length.symm⟩, w.okI Le.refl rh (.int _)⟩
        · rename_i e0
          cases rh.at r e0 with
          | dk h1 ke q =>
            refine .inr ⟨_, _, rfl, h1, ?_⟩
            rw [same_len ke]
            exact w.okI Le.refl rh (.int _)
        · exact w.elim
  · exact w.elim
def dInt (ds : List D) (h : Mh) : R D := match ds with
  | [.int i] => .ok (.int i) h
  | [.bl b] => .ok (.int (if b = true then 1 else 0)) h
  | [.str z] => match PySem.intText? z with
    | some n => if z.length ≤ 640 then .ok (.int n) h else .bad
    | none => .bad
  | _ => .bad
def rInt : List V → Hp → VK → Prop := fun xs H Q => ((∃ i, xs = [V.int i] ∧ Q (V.int i) H) ∨ ∃ k, xs = [V.bl k] ∧ Q (V.int (if k = true then 1 else 0)) H) ∨ ∃ a n, xs = [.str a] ∧ PySem.intText? a = some n ∧ a.length ≤ 640 ∧ Q (.int n) H
theorem call_int2 : CallR X (.type "int") rInt := CallRor call_int1 call_int_str
theorem sem_int : SemL X rInt dInt := by
  intro W σ ρ H h Q vs ds rh rvs w
  unfold dInt at w
  split at w
  · cases rvs with
    | cons r t => cases t; cases r; exact .inl (.inl ⟨_, rfl, w.okI Le.refl rh (.int _)⟩)
  · cases rvs with
    | cons r t => cases t; cases r; exact .inl (.inr ⟨_, rfl, w.okI Le.refl rh (.int _)⟩)
  · split at w
    · split at w
      · cases rvs with
        | cons r t => cases t; cases r; exact .inr ⟨_, _, rfl, by assumption, by assumption, w.okI Le.refl rh (.int _)⟩
      · exact w.elim
    · exact w.elim
  · exact w.elim
def dStr (ds : List D) (h : Mh) : R D := match ds with
  | [.int i] => if i.natAbs.log2 < 1920 then .ok (.str (Str.ofString (toString i))) h else .bad
  | [.str z] => .ok (.str z) h
  | _ => .bad
def rStr : List V → Hp → VK → Prop := fun xs H Q => (∃ i, xs = [V.int i] ∧ Nat.log2 (Int.natAbs i) < 1920 ∧ Q (V.str (Str.ofString (toString i))) H) ∨ ∃ a, xs = [.str a] ∧ Q (.str a) H
theorem call_str2 : CallR X (.type "str") rStr := CallRor call_str_int SkE.call_str_str
theorem sem_str : SemL X rStr dStr := by
  intro W σ ρ H h Q vs ds rh rvs w
  unfold dStr at w
  split at w
  · split at w
    · cases rvs with
      | cons r t => cases t; cases r; exact .inl ⟨_, rfl, by assumption, w.okI Le.refl rh (.str _)⟩
    · exact w.elim
  · cases rvs with
    | cons r t => cases t; cases r; exact .inr ⟨_, rfl, w.okI Le.refl rh (.str _)⟩
  · exact w.elim
/-- isinstance, built-in types -/
def tyD (d : D) (h : Mh) : Option String := match d with
  | .non => some "NoneType"
  | .bl _ => some "bool"
  | .int _ => some "int"
  | .str _ => some "str"
  | .tup _ => some "tuple"
  | .ref n => match h[n]? with
    | some (.lst _) => some "list"
    | some (.fls _) => some "list"
    | some (.dk _) => some "dict"
    | _ => none
  | _ => none
theorem tyD_of {K mg ρ H h} {v : V} {d : D} {t : String} (rh : RHp K mg ρ H h) (r : RV K mg ρ H v d) (e : tyD d h = some t) : TyX K H v (.type t) := by
  have kT : ∀ {a : Addr} {vs : List V}, SqT K H a vs → TyX K H (.ref a) (.type "tuple") := fun {a vs} t => by
    rcases t with (t | ⟨o, t⟩) | ⟨o, its, n, t, c, _⟩
    · exact .base (.tup t)
    · exact .fTuple t
    · exact .kTuple t c
  cases r with
  | non => cases e; exact .base .non
  | bl b => cases e; exact .base (.bl b)
  | int b => cases e; exact .base (.int b)
  | str b => cases e; exact .base (.str b)
  | ty b => cases e
  | glo b => cases e
  | tup t q => cases e; exact kT t
  | ref r =>
    simp only [tyD] at e
    split at e
    · rename_i e0
      cases e
      cases rh.at r e0 with
      | lst h1 _ => exact .base (.lst h1)
    · rename_i e0
      cases e
      cases rh.at r e0 with
      | fls h1 _ =>
        rcases h1 with ⟨o, h1⟩ | ⟨o, its, n, h1, c, _⟩
        · exact .base (.frz h1)
        · exact .kList h1 c
    · rename_i e0
      cases e
      cases rh.at r e0 with
      | dk h1 _ _ => exact .base (.dK h1)
    · cases e
def isiB (t T : String) : Bool := t == T || (t == "bool" && T == "int")
def knT (t : String) : Bool := t == "NoneType" || t == "bool" || t == "int" || t == "str" || t == "tuple" || t == "list" || t == "dict"
theorem knT_of {t : String} (h : knT t = true) : t = "NoneType" ∨ t = "bool" ∨ t = "int" ∨ t = "str" ∨ t = "tuple" ∨ t = "list" ∨ t = "dict" := by
  unfold knT at h
  simp only [Bool.or_eq_true, beq_iff_eq] at h
  rcases h with (((((h | h) | h) | h) | h) | h) | h <;> simp [h]
theorem kit_all : ∀ t ∈ ["NoneType", "bool", "int", "str", "tuple", "list", "dict"], ∀ T ∈ ["NoneType", "bool", "int", "str", "tuple", "list", "dict"], kitB t T = some (isiB t T) := by decide +kernel
theorem kit_kn {K : PySem.W.Frag} {t T : String} (h : knT t = true) (h' : knT T = true) : PySem.W.kitOne K (.type t) (.type T) = some (isiB t T) := kit_ty (kit_all t (by rcases knT_of h with h | h | h | h | h | h | h <;> simp [h]) T (by rcases knT_of h' with h | h | h | h | h | h | h <;> simp [h]))
theorem tyD_kn {d : D} {h : Mh} {t : String} (e : tyD d h = some t) : knT t = true := by
  unfold tyD at e
  split at e <;> first
    | (cases e; done)
    | (cases e; rfl)
    | (split at e <;> first | (cases e; rfl) | cases e)
def dIsi1 (ds : List D) (h : Mh) : R D := match ds with
  | [x, .ty T] => match tyD x h with
    | some t => if knT T = true then .ok (.bl (isiB t T)) h else .bad
    | none => .bad
  | _ => .bad
theorem sem_isi1 : SemL X (rIsi X.K) dIsi1 := by
  intro W σ ρ H h Q vs ds rh rvs w
  unfold dIsi1 at w
  split at w
  · split at w
    · rename_i t e
      split at w
      · rename_i hk
        cases rvs with
        | cons r tl => cases tl with
          | cons r2 tl =>
            cases tl; cases r2
            exact ⟨_, _, _, _, _, rfl, .ty _, tyD_of rh r e, kit_kn (tyD_kn e) hk, w.okI Le.refl rh (.bl _)⟩
      · exact w.elim
    · exact w.elim
  · exact w.elim
def dIsi2 (T U : String) (x : D) (h : Mh) : R D := match tyD x h with
  | some t => .ok (.bl (isiB t T || isiB t U)) h
  | none => .bad
/-- list(..) -/
def dList (ds : List D) (h : Mh) : R D := match ds with
  | [.tup xs] => .ok (.ref h.length) (h ++ [.lst xs])
  | [.ref n] => match lstOf h n with
    | some xs => .ok (.ref h.length) (h ++ [.lst xs])
    | none => .bad
  | _ => .bad
theorem sem_list : SemL X (fun xs H Q => ∃ p ys, xs = [V.ref p] ∧ (SqL X.K H p ys ∨ SqT X.K H p ys) ∧ ∀ (l : Addr), H l = none → Q (V.ref l) (upd H l (HO.lst ys))) dList := by
  intro W σ ρ H h Q vs ds rh rvs w
  unfold dList at w
  split at w
  · cases rvs with
    | cons r t =>
      cases t
      cases r with
      | tup t q => exact ⟨_, _, rfl, .inr t, fun p hp => w.alloc rh hp (RO.newList hp q)⟩
  · split at w
    · rename_i e0
      cases rvs with
      | cons r t =>
        cases t
        cases r with
        | ref r =>
          obtain ⟨vs, s1, q⟩ := (lstOf_at e0).sq rh r
          exact ⟨_, _, rfl, .inl s1, fun p hp => w.alloc rh hp (RO.newList hp q)⟩
    · exact w.elim
  · exact w.elim
/-- all(..), any(..) of a list of bools -/
def boolsOf : List D → Option (List Bool)
  | [] => some []
  | .bl b :: r => (boolsOf r).map (b :: ·)
  | _ :: _ => none
theorem boolsOf_eq : ∀ {ds : List D} {bs : List Bool}, boolsOf ds = some bs → ds = bs.map D.bl
  | [], bs, e => by cases e; rfl
  | .bl b :: r, bs, e => by
    unfold boolsOf at e
    obtain ⟨cs, e1, e2⟩ := Option.map_eq_some_iff.mp e
    subst e2
    rw [boolsOf_eq e1]; rfl
  | .non :: _, _, e => by cases e
  | .int _ :: _, _, e => by cases e
  | .str _ :: _, _, e => by cases e
  | .tup _ :: _, _, e => by cases e
  | .ref _ :: _, _, e => by cases e
  | .ty _ :: _, _, e => by cases e
  | .glo _ :: _, _, e => by cases e
def dAll (f : List Bool → Bool) (ds : List D) (h : Mh) : R D := match ds with
  | [.ref n] => match lstOf h n with
    | some xs => match boolsOf xs with
      | some bs => .ok (.bl (f bs)) h
      | none => .bad
    | none => .bad
  | _ => .bad
theorem sem_all : SemL X (rAll X.K) (dAll fun bs => bs.all id) := by
  intro W σ ρ H h Q vs ds rh rvs w
  unfold dAll at w
  split at w
  · split at w
    · rename_i e0
      split at w
      · rename_i bs eb
        cases rvs with
        | cons r t =>
          cases t
          cases r with
          | ref r =>
            obtain ⟨vs, s1, q⟩ := (lstOf_at e0).sq rh r
            rw [boolsOf_eq eb] at q
            rw [q.bools] at s1
            exact ⟨_, bs, rfl, s1, w.okI Le.refl rh (.bl _)⟩
      · exact w.elim
    · exact w.elim
  · exact w.elim
theorem sem_any : SemL X (rAny X.K) (dAll fun bs => bs.any id) := by
  intro W σ ρ H h Q vs ds rh rvs w
  unfold dAll at w
  split at w
  · split at w
    · rename_i e0
      split at w
      · rename_i bs eb
        cases rvs with
        | cons r t =>
          cases t
          cases r with
          | ref r =>
            obtain ⟨vs, s1, q⟩ := (lstOf_at e0).sq rh r
            rw [boolsOf_eq eb] at q
            rw [q.bools] at s1
            exact ⟨_, bs, rfl, s1, w.okI Le.refl rh (.bl _)⟩
      · exact w.elim
    · exact w.elim
  · exact w.elim
section
variable {p pos : Pos} {e : Expr} {es : List Expr} {ml : Sg → Mh → R (List D)} {a b c : Expr} {ma mb : Sg → Mh → R D}
theorem q_len (hm : X.mg "len" = none) (ha : PL X W [e] ml) (hg : Gl X "len" := by rfl) (he : starEach [e] X.env = (false, eval e X.env) :: starEach [] X.env := by rfl) : PM X W (.Call (.Name "len" p) [e] [] pos) (mBi dLen ml) := q_bi call_len2 sem_len hm ha PySem.boot_len hg (by decide) (by decide) he rfl
theorem q_intc (hm : X.mg "int" = none) (ha : PL X W [e] ml) (hg : Gl X "int" := by rfl) (he : starEach [e] X.env = (false, eval e X.env) :: starEach [] X.env := by rfl) : PM X W (.Call (.Name "int" p) [e] [] pos) (mBi dInt ml) := q_ty call_int2 sem_int hm ha (by decide +kernel) hg (by decide) (by decide) he rfl
theorem q_strc (hm : X.mg "str" = none) (ha : PL X W [e] ml) (hg : Gl X "str" := by rfl) (he : starEach [e] X.env = (false, eval e X.env) :: starEach [] X.env := by rfl) : PM X W (.Call (.Name "str" p) [e] [] pos) (mBi dStr ml) := q_ty call_str2 sem_str hm ha (by decide +kernel) hg (by decide) (by decide) he rfl
theorem q_listc (hm : X.mg "list" = none) (ha : PL X W [e] ml) (hg : Gl X "list" := by rfl) (he : starEach [e] X.env = (false, eval e X.env) :: starEach [] X.env := by rfl) : PM X W (.Call (.Name "list" p) [e] [] pos) (mBi dList ml) := q_ty call_list_of sem_list hm ha (by decide +kernel) hg (by decide) (by decide) he rfl
theorem q_all (hc : X.calm = true) (hm : X.mg "all" = none) (ha : PL X W [e] ml) (hg : Gl X "all" := by rfl) (he : starEach [e] X.env = (false, eval e X.env) :: starEach [] X.env := by rfl) : PM X W (.Call (.Name "all" p) [e] [] pos) (mBi (dAll fun bs => bs.all id) ml) := q_bi (cr_all hc) sem_all hm ha (by decide +kernel) hg (by decide) (by decide) he rfl
/-- isinstance(e, T) -/
theorem q_tyname {n : Str} {T : String} (hm : X.mg n = none) (hv : bootBuiltins n = some (.type T)) (hg : Gl X n := by rfl) (hn : n ≠ "__name__" := by decide) (hd : (n == ("__debug__" : Str)) = false := by decide) : PM X W (.Name n pos) (mLit (.ty T)) := q_lit (pe_bltn (v := .ty T) hg hm hv rfl hn hd) fun _ _ => .ty T
theorem q_isi {n : Str} {T : String} {p2 : Pos} (hm : X.mg "isinstance" = none) (ha : PM X W a ma) (hmn : X.mg n = none) (hv : bootBuiltins n = some (.type T)) (hk : knT T = true := by decide) (hg : Gl X "isinstance" := by rfl) (hgn : Gl X n := by rfl) (hn : n ≠ "__name__" := by decide) (hd : (n == ("__debug__" : Str)) = false := by decide)
    (he : starEach [a, .Name n p2] X.env = (false, eval a X.env) :: starEach [.Name n p2] X.env := by rfl) (he2 : starEach [.Name n p2] X.env = (false, eval (.Name n p2) X.env) :: starEach [] X.env := by rfl) (hpl : (backTo pos (starEach [.Name n p2] X.env)).any (·.1) = false := by rfl) :
    PM X W (.Call (.Name "isinstance" p) [a, .Name n p2] [] pos) (mBi dIsi1 (mCons ma (mCons (mLit (.ty T)) mNil))) := q_bi call_isi sem_isi1 hm (l_cons ha (l_cons (q_tyname hmn hv hgn hn hd) l_nil he2) he) (by decide +kernel) hg (by decide) (by decide) he hpl
theorem q_isi2 {n n' : Str} {T T' : String} {p2 p3 p4 : Pos} {k : Nat} (hm : X.mg "isinstance" = none) (ha : PM X W a ma) (hmn : X.mg n = none) (hv : bootBuiltins n = some (.type T)) (hmn' : X.mg n' = none) (hv' : bootBuiltins n' = some (.type T')) (hk : knT T = true := by decide) (hk' : knT T' = true := by decide)
    (hg : Gl X "isinstance" := by rfl) (hgn : Gl X n := by rfl) (hgn' : Gl X n' := by rfl) (hn : n ≠ "__name__" := by decide) (hd : (n == ("__debug__" : Str)) = false := by decide) (hn' : n' ≠ "__name__" := by decide) (hd' : (n' == ("__debug__" : Str)) = false := by decide)
    (he : starEach [a, .Tuple [.Name n p2, .Name n' p3] k p4] X.env = (false, eval a X.env) :: starEach [.Tuple [.Name n p2, .Name n' p3] k p4] X.env := by rfl) (he2 : starEach [.Tuple [.Name n p2, .Name n' p3] k p4] X.env = (false, eval (.Tuple [.Name n p2, .Name n' p3] k p4) X.env) :: starEach [] X.env := by rfl)
    (he3 : starEach [.Name n p2, .Name n' p3] X.env = (false, eval (.Name n p2) X.env) :: starEach [.Name n' p3] X.env := by rfl) (he4 : starEach [.Name n' p3] X.env = (false, eval (.Name n' p3) X.env) :: starEach [] X.env := by rfl)
    (hpl : (backTo pos (starEach [.Tuple [.Name n p2, .Name n' p3] k p4] X.env)).any (·.1) = false := by rfl) : PM X W (.Call (.Name "isinstance" p) [a, .Tuple [.Name n p2, .Name n' p3] k p4] [] pos) (m1 (dIsi2 T T') ma) :=
  ⟨PEimp (pe_callB call_isiT hg hm (by decide +kernel) (pa_cons ha.pe (pa_cons (pe_tup (pa_cons (pe_bltn (v := .ty T) hgn hmn hv rfl hn hd) (pa_cons (pe_bltn (v := .ty T') hgn' hmn' hv' rfl hn' hd') pa_nil he4) he3)) pa_nil he2) he) (by decide) (by decide) he hpl) fun σ H Q ⟨ρ, sg, h, hs, rh, w⟩ =>
    TM.go hs rh w fun ρ1 H1 h1 v d le rh1 rv w1 => by
      unfold dIsi2 at w1
      split at w1
      · rename_i t e
        refine ⟨(by show 2 ≤ sizeLine; decide), fun p hp => ?_⟩
        have le2 : Le X.K ρ1 H1 ρ1 (upd H1 p (.tup [.ty T, .ty T'])) := Le.new hp
        refine ⟨_, _, _, _, _, _, rfl, upd_same, .cons (.ty T) (.cons (.ty T') .nil), tyD_of (rh1.made hp) (rv.mono le2) e, ?_, w1.okI le2 (rh1.made hp) (.bl _)⟩
        refine kitAny_cons (kit_kn (tyD_kn e) hk) (fun e1 => ?_) (fun e1 => by rw [e1]; rfl)
        rw [e1, Bool.false_or]
        exact kitAny_cons (kit_kn (tyD_kn e) hk') (fun e2 => by rw [e2]; exact kitAny_nil) (fun e2 => e2)
      · exact w1.elim⟩
end
end
end Mo

namespace Mo
open PySem PySem.Spec PyProof.Rows L2
section
variable {X : Cx} {W : WX} {o e : Expr} {es : List Expr} {mo ma : Sg → Mh → R D} {ml : Sg → Mh → R (List D)} {apos pos : Pos}
/-! ### methods of built-in types -/
def isTy (T : String) (d : D) (h : Mh) : Bool := match d with
  | .str _ => T == "str"
  | .ref n => match h[n]? with
    | some (.lst _) => T == "list"
    | some (.fls _) => T == "list"
    | some (.dk _) => T == "dict"
    | _ => false
  | _ => false
theorem isTy_of {K mg ρ H h} {T : String} {v : V} {d : D} (rh : RHp K mg ρ H h) (r : RV K mg ρ H v d) (e : isTy T d h = true) : tyV K T v H := by
  unfold isTy at e
  split at e
  · cases r; exact (by simpa using e : T = "str")
  · cases r with
    | ref r =>
      split at e
      · rename_i e0
        cases rh.at r e0 with
        | lst h1 _ => exact .inl ⟨by simpa using e, _, SqL.of h1⟩
      · rename_i e0
        cases rh.at r e0 with
        | fls h1 _ => exact .inl ⟨by simpa using e, _, h1.sq⟩
      · rename_i e0
        cases rh.at r e0 with
        | dk h1 _ _ => exact .inr (.inr (.inl ⟨by simpa using e, .inl ⟨_, h1⟩⟩))
      · cases e
  · cases e
def mMt (T : String) (f : D → List D → Mh → R D) (mo : Sg → Mh → R D) (ml : Sg → Mh → R (List D)) : Sg → Mh → R D := fun sg h => (mo sg h).bind fun x h1 => if isTy T x h1 = true then (ml sg h1).bind fun ds h2 => f x ds h2 else .bad
def SemMt (X : Cx) (r : V → List V → Hp → VK → Prop) (f : D → List D → Mh → R D) : Prop := ∀ (W : WX) (σ : L2.St) (ρ : Ren) (H : Hp) (h : Mh) (Q : VK) (v : V) (d : D) (vs : List V) (ds : List D), RHp X.K X.mg ρ H h → RV X.K X.mg ρ H v d → RVs X.K X.mg ρ H vs ds → WV X.K X.mg W σ Q ρ H (f d ds h) → r v vs H Q
theorem q_bm {name : Str} {T id : String} {r : V → List V → Hp → VK → Prop} {f : D → List D → Mh → R D} (pa : PlainAttrs T) (slot : Slot T name id) (hty : typeOf (.builtin id) = pure (.type "method_descriptor")) (hm : MtR X id r) (s : SemMt X r f) (ho : PM X W o mo) (ha : PL X W (e :: es) ml)
    (hbase : attributeBase o name X.env (eval o X.env) = eval o X.env := by rfl)
    (hfew : ((backTo pos (starEach (e :: es) X.env)).all (fun x => !x.1) && (backToKw pos (keywordEach [] X.env)).all (fun x => x.1.isSome)
      && decide ((e :: es).length + ([] : List Keyword).length + (if ([] : List Keyword).isEmpty then 0 else 1) < 30)) = true := by rfl)
    (hline : (apos.endLine == pos.line) = true := by rfl) (hs : starEach (e :: es) X.env = (false, eval e X.env) :: starEach es X.env := by rfl) (hplain : (backTo pos (starEach es X.env)).any (·.1) = false := by rfl) :
    PM X W (.Call (.Attribute o name apos) (e :: es) [] pos) (mMt T f mo ml) :=
  ⟨PEimp (pe_bm pa slot hty hm ho.pe ha.pa hbase hfew hline hs hplain) fun σ H Q ⟨ρ, sg, h, hst, rh, w⟩ => TM.go hst rh w fun ρ1 H1 h1 v d le rh1 rv w1 => by
    split at w1
    · rename_i hT
      exact ⟨isTy_of rh1 rv hT, TMl.go (hst.mono le) rh1 w1 fun ρ2 H2 h2 vs ds le2 rh2 rvs w2 => s W σ ρ2 H2 h2 Q v d vs ds rh2 (rv.mono le2) rvs w2⟩
    · exact w1.elim⟩
theorem q_bm0 {name : Str} {T id : String} {r : V → List V → Hp → VK → Prop} {f : D → List D → Mh → R D} (pa : PlainAttrs T) (slot : Slot T name id) (hty : typeOf (.builtin id) = pure (.type "method_descriptor")) (hm : MtR X id r) (s : SemMt X r f) (ho : PM X W o mo)
    (hbase : attributeBase o name X.env (eval o X.env) = eval o X.env := by rfl) (hline : (apos.endLine == pos.line) = true := by rfl) : PM X W (.Call (.Attribute o name apos) [] [] pos) (mMt T f mo mNil) :=
  ⟨PEimp (pe_bm0 pa slot hty hm ho.pe hbase hline) fun σ H Q ⟨ρ, sg, h, hst, rh, w⟩ => TM.go hst rh w fun ρ1 H1 h1 v d le rh1 rv w1 => by
    split at w1
    · rename_i hT
      exact ⟨isTy_of rh1 rv hT, s W σ ρ1 H1 h1 Q v d [] [] rh1 rv .nil w1⟩
    · exact w1.elim⟩
/-- a list is changed -/
theorem WG.wr {K mg W σ Q ρ H h} {n : Nat} {a : Addr} {vs ws : List V} {xs ys : List D} {d : D} {v : V} (w : WV K mg W σ Q ρ H (.ok d (h.set n (.lst ys)))) (rh : RHp K mg ρ H h) (r : ρ[n]? = some a) (e : h[n]? = some (.lst xs)) (hl : H a = some (.lst vs)) (q : RVs K mg ρ H ws ys) (rv : RV K mg ρ H v d) : Q v (upd H a (.lst ws)) :=
  have le : Le K ρ H ρ (upd H a (.lst ws)) := Le.write hl trivial
  w.okI le (rh.write r e rfl rfl hl trivial (.lst upd_same (q.mono le))) (rv.mono le)
def dAppend (x : D) (ds : List D) (h : Mh) : R D := match x, ds with
  | .ref n, [y] => match h[n]? with
    | some (.lst xs) => if xs.length < sizeLine then .ok .non (h.set n (.lst (xs ++ [y]))) else .bad
    | _ => .bad
  | _, _ => .bad
theorem sem_append : SemMt X rAppend dAppend := by
  intro W σ ρ H h Q v d vs ds rh r rvs w
  unfold dAppend at w
  split at w
  · split at w
    · rename_i xs e0
      split at w
      · rename_i hz
        cases rvs with
        | cons ry t =>
          cases t
          cases r with
          | ref r =>
            cases rh.at r e0 with
            | lst hl q => exact ⟨_, _, _, rfl, rfl, hl, by rw [q.length]; exact hz, w.wr rh r e0 hl (q.append (.cons ry .nil)) .non⟩
      · exact w.elim
    · exact w.elim
  · exact w.elim
def dReverse (x : D) (ds : List D) (h : Mh) : R D := match x, ds with
  | .ref n, [] => match h[n]? with
    | some (.lst xs) => .ok .non (h.set n (.lst xs.reverse))
    | _ => .bad
  | _, _ => .bad
theorem sem_reverse : SemMt X rReverse dReverse := by
  intro W σ ρ H h Q v d vs ds rh r rvs w
  unfold dReverse at w
  split at w
  · split at w
    · rename_i xs e0
      cases rvs
      cases r with
      | ref r =>
        cases rh.at r e0 with
        | lst hl q => exact ⟨_, _, rfl, rfl, hl, w.wr rh r e0 hl q.reverse .non⟩
    · exact w.elim
  · exact w.elim
def dPopAt (x : D) (ds : List D) (h : Mh) : R D := match x, ds with
  | .ref n, [.int i] => match h[n]? with
    | some (.lst xs) => if -(2 ^ 63) ≤ i ∧ i < 2 ^ 63 then match seqIndex? i xs.length with
      | some k => match xs[k]? with
        | some y => .ok y (h.set n (.lst (xs.eraseIdx k)))
        | none => .bad
      | none => .bad else .bad
    | _ => .bad
  | _, _ => .bad
theorem sem_popAt : SemMt X rPopAt dPopAt := by
  intro W σ ρ H h Q v d vs ds rh r rvs w
  unfold dPopAt at w
  split at w
  · split at w
    · rename_i xs e0
      split at w
      · rename_i hz
        split at w
        · rename_i k ek
          split at w
          · rename_i y ey
            cases rvs with
            | cons ry t =>
              cases t; cases ry
              cases r with
              | ref r =>
                cases rh.at r e0 with
                | lst hl q =>
                  obtain ⟨v, ev, rv⟩ := q.get ey
                  exact ⟨_, _, _, k, v, rfl, rfl, hl, hz.1, hz.2, by rw [q.length]; exact ek, ev, w.wr rh r e0 hl (q.eraseIdx k) rv⟩
          · exact w.elim
        · exact w.elim
      · exact w.elim
    · exact w.elim
  · exact w.elim
theorem RVs.dropLast {K mg ρ H} {vs : List V} {ds : List D} (r : RVs K mg ρ H vs ds) : RVs K mg ρ H vs.dropLast ds.dropLast := by
  rw [List.dropLast_eq_take, List.dropLast_eq_take, r.length]
  exact r.take _
def dPop (x : D) (ds : List D) (h : Mh) : R D := match x, ds with
  | .ref n, [] => match h[n]? with
    | some (.lst xs) => match xs[xs.length - 1]? with
      | some y => .ok y (h.set n (.lst xs.dropLast))
      | none => .bad
    | _ => .bad
  | _, _ => .bad
theorem sem_pop : SemMt X rPop dPop := by
  intro W σ ρ H h Q v d vs ds rh r rvs w
  unfold dPop at w
  split at w
  · split at w
    · rename_i xs e0
      split at w
      · rename_i y ey
        cases rvs
        cases r with
        | ref r =>
          cases rh.at r e0 with
          | lst hl q =>
            obtain ⟨v, ev, rv⟩ := q.get ey
            exact ⟨_, _, v, rfl, rfl, hl, by rw [q.length]; exact ev, w.wr rh r e0 hl q.dropLast rv⟩
      · exact w.elim
    · exact w.elim
  · exact w.elim
def strsOf : List D → Option (List Str)
  | [] => some []
  | .str b :: r => (strsOf r).map (b :: ·)
  | _ :: _ => none
theorem strsOf_eq : ∀ {ds : List D} {bs : List Str}, strsOf ds = some bs → ds = bs.map D.str
  | [], bs, e => by cases e; rfl
  | .str b :: r, bs, e => by
    unfold strsOf at e
    obtain ⟨cs, e1, e2⟩ := Option.map_eq_some_iff.mp e
    subst e2
    rw [strsOf_eq e1]; rfl
  | .non :: _, _, e => by cases e
  | .int _ :: _, _, e => by cases e
  | .bl _ :: _, _, e => by cases e
  | .tup _ :: _, _, e => by cases e
  | .ref _ :: _, _, e => by cases e
  | .ty _ :: _, _, e => by cases e
  | .glo _ :: _, _, e => by cases e
def dJoin (x : D) (ds : List D) (h : Mh) : R D := match x, ds with
  | .str a, [.ref n] => match lstOf h n with
    | some xs => match strsOf xs with
      | some ys => if (ys.map (·.length)).sum + ys.length * a.length ≤ 16777216 then .ok (.str (Txt.join a ys)) h else .bad
      | none => .bad
    | none => .bad
  | _, _ => .bad
def rJoin (K : PySem.W.Frag) : V → List V → Hp → VK → Prop := fun x xs H Q => ∃ a p, ∃ ys : List Str, x = .str a ∧ xs = [.ref p] ∧ (SqL K H p (ys.map V.str) ∨ SqT K H p (ys.map V.str)) ∧ (ys.map (·.length)).sum + ys.length * a.length ≤ 16777216 ∧ Q (.str (Txt.join a ys)) H
theorem sem_join : SemMt X (rJoin X.K) dJoin := by
  intro W σ ρ H h Q v d vs ds rh r rvs w
  unfold dJoin at w
  split at w
  · split at w
    · rename_i xs e0
      split at w
      · rename_i ys es
        split at w
        · rename_i hz
          cases r
          cases rvs with
          | cons ry t =>
            cases t
            cases ry with
            | ref ry =>
              obtain ⟨vs, s1, q⟩ := (lstOf_at e0).sq rh ry
              rw [strsOf_eq es] at q
              rw [q.strs] at s1
              exact ⟨_, _, ys, rfl, rfl, .inl s1, hz, w.okI Le.refl rh (.str _)⟩
        · exact w.elim
      · exact w.elim
    · exact w.elim
  · exact w.elim
end
section
variable {X : Cx} {W : WX} {o a : Expr} {mo ma : Sg → Mh → R D} {apos pos : Pos}
theorem q_append (ho : PM X W o mo) (ha : PM X W a ma) (hbase : attributeBase o "append" X.env (eval o X.env) = eval o X.env := by rfl) (hline : (apos.endLine == pos.line) = true := by rfl) (hs : starEach [a] X.env = (false, eval a X.env) :: starEach [] X.env := by rfl)
    (hfew : ((backTo pos (starEach [a] X.env)).all (fun x => !x.1) && (backToKw pos (keywordEach [] X.env)).all (fun x => x.1.isSome)
      && decide ([a].length + ([] : List Keyword).length + (if ([] : List Keyword).isEmpty then 0 else 1) < 30)) = true := by rfl) :
    PM X W (.Call (.Attribute o "append" apos) [a] [] pos) (mMt "list" dAppend mo (mCons ma mNil)) := q_bm PySem.F.plainAttrs_list PySem.F.slot_list_append PySem.F.type_list_append mt_append sem_append ho (l_cons ha l_nil hs) hbase hfew hline hs rfl
theorem q_popAt (ho : PM X W o mo) (ha : PM X W a ma) (hbase : attributeBase o "pop" X.env (eval o X.env) = eval o X.env := by rfl) (hline : (apos.endLine == pos.line) = true := by rfl) (hs : starEach [a] X.env = (false, eval a X.env) :: starEach [] X.env := by rfl)
    (hfew : ((backTo pos (starEach [a] X.env)).all (fun x => !x.1) && (backToKw pos (keywordEach [] X.env)).all (fun x => x.1.isSome)
      && decide ([a].length + ([] : List Keyword).length + (if ([] : List Keyword).isEmpty then 0 else 1) < 30)) = true := by rfl) :
    PM X W (.Call (.Attribute o "pop" apos) [a] [] pos) (mMt "list" dPopAt mo (mCons ma mNil)) := q_bm PySem.F.plainAttrs_list PySem.F.slot_list_pop PySem.F.type_list_pop mt_popAt sem_popAt ho (l_cons ha l_nil hs) hbase hfew hline hs rfl
theorem q_join (ho : PM X W o mo) (ha : PM X W a ma) (hbase : attributeBase o "join" X.env (eval o X.env) = eval o X.env := by rfl) (hline : (apos.endLine == pos.line) = true := by rfl) (hs : starEach [a] X.env = (false, eval a X.env) :: starEach [] X.env := by rfl)
    (hfew : ((backTo pos (starEach [a] X.env)).all (fun x => !x.1) && (backToKw pos (keywordEach [] X.env)).all (fun x => x.1.isSome)
      && decide ([a].length + ([] : List Keyword).length + (if ([] : List Keyword).isEmpty then 0 else 1) < 30)) = true := by rfl) :
    PM X W (.Call (.Attribute o "join" apos) [a] [] pos) (mMt "str" dJoin mo (mCons ma mNil)) := q_bm PySem.F.plainAttrs_str PySem.F.slot_str_join PySem.F.type_str_join mt_join sem_join ho (l_cons ha l_nil hs) hbase hfew hline hs rfl
theorem q_pop0 (ho : PM X W o mo) (hbase : attributeBase o "pop" X.env (eval o X.env) = eval o X.env := by rfl) (hline : (apos.endLine == pos.line) = true := by rfl) : PM X W (.Call (.Attribute o "pop" apos) [] [] pos) (mMt "list" dPop mo mNil) := q_bm0 PySem.F.plainAttrs_list PySem.F.slot_list_pop PySem.F.type_list_pop mt_pop sem_pop ho hbase hline
theorem q_reverse (ho : PM X W o mo) (hbase : attributeBase o "reverse" X.env (eval o X.env) = eval o X.env := by rfl) (hline : (apos.endLine == pos.line) = true := by rfl) : PM X W (.Call (.Attribute o "reverse" apos) [] [] pos) (mMt "list" dReverse mo mNil) := q_bm0 PySem.F.plainAttrs_list PySem.F.slot_list_reverse PySem.F.type_list_reverse mt_reverse sem_reverse ho hbase hline
end
end Mo

namespace Mo
open PySem PySem.Spec PyProof.Rows L2
/-! ### texts in order -/
theorem lt_irr : ∀ a : List Nat, ltCps a a = false
  | [] => rfl
  | x :: a => by simp [ltCps, lt_irr a]
theorem ge_trans : ∀ a b c : List Nat, ltCps b a = false → ltCps c b = false → ltCps c a = false
  | [], _, c, _, _ => by cases c <;> rfl
  | x :: a, [], _, h, _ => by cases h
  | x :: a, y :: b, [], _, h => by cases h
  | x :: a, y :: b, z :: c, h1, h2 => by
    simp only [ltCps, Bool.or_eq_false_iff, decide_eq_false_iff_not, Bool.and_eq_false_imp, beq_iff_eq] at h1 h2 ⊢
    refine ⟨by omega, fun e => ?_⟩
    subst e
    have e1 : y = z := by omega
    subst e1
    exact ge_trans a b c (h1.2 rfl) (h2.2 rfl)
theorem ge_anti : ∀ a b : List Nat, ltCps b a = false → ltCps a b = false → a = b
  | [], [], _, _ => rfl
  | [], _ :: _, _, h => by cases h
  | _ :: _, [], h, _ => by cases h
  | x :: a, y :: b, h1, h2 => by
    simp only [ltCps, Bool.or_eq_false_iff, decide_eq_false_iff_not, Bool.and_eq_false_imp, beq_iff_eq] at h1 h2
    have e1 : x = y := by omega
    subst e1
    rw [ge_anti a b (h1.2 rfl) (h2.2 rfl)]
theorem ge_total : ∀ a b : List Nat, ltCps b a = false ∨ ltCps a b = false
  | [], b => .inl (by cases b <;> rfl)
  | _ :: _, [] => .inr rfl
  | x :: a, y :: b => by
    simp only [ltCps, Bool.or_eq_false_iff, decide_eq_false_iff_not, Bool.and_eq_false_imp, beq_iff_eq]
    by_cases h : x = y
    · subst h
      rcases ge_total a b with h | h
      · exact .inl ⟨by omega, fun _ => h⟩
      · exact .inr ⟨by omega, fun _ => h⟩
    · by_cases h' : x < y
      · exact .inl ⟨by omega, fun e => absurd e.symm h⟩
      · exact .inr ⟨by omega, fun e => absurd e h⟩
def leS (a b : Str) : Bool := !ltCps b.cps.toList a.cps.toList
theorem leS_iff {a b : Str} : leS a b = true ↔ ltCps b.cps.toList a.cps.toList = false := by unfold leS; simp
def sortS (ks : List Str) : List Str := ks.mergeSort leS
theorem rising_all : ∀ (l : List Str) (p : Str), risingS p l = true → ∀ x ∈ l, leS p x = true
  | [], _, _, _, h => by cases h
  | y :: l, p, h, x, hx => by
    unfold risingS at h
    rw [Bool.and_eq_true] at h
    have h1 : leS p y = true := h.1
    rcases List.mem_cons.mp hx with rfl | hx
    · exact h1
    · have h2 := rising_all l y h.2 x hx
      rw [leS_iff] at h1 h2 ⊢
      exact ge_trans _ _ _ h1 h2
theorem rising_pair : ∀ (l : List Str) (p : Str), risingS p l = true → (p :: l).Pairwise fun a b => leS a b = true
  | [], p, _ => List.pairwise_singleton _ _
  | y :: l, p, h => by
    refine List.pairwise_cons.mpr ⟨rising_all _ _ h, ?_⟩
    unfold risingS at h
    rw [Bool.and_eq_true] at h
    exact rising_pair l y h.2
theorem sorted_pair (l : List Str) (h : sortedS l = true) : l.Pairwise fun a b => leS a b = true := by
  cases l with
  | nil => exact List.Pairwise.nil
  | cons x r => exact rising_pair r x h
theorem sortS_uniq {ys ks : List Str} (p : ys.Perm ks) (s : sortedS ys = true) : ys = sortS ks := by
  refine List.Perm.eq_of_pairwise (le := fun a b => leS a b = true) (fun a b _ _ h1 h2 => ?_) (sorted_pair ys s) ?_ (p.trans (List.mergeSort_perm ks leS).symm)
  · rw [leS_iff] at h1 h2
    cases a; cases b
    congr 1
    exact Array.toList_inj.mp (ge_anti _ _ h1 h2)
  · exact List.pairwise_mergeSort (fun a b c h1 h2 => by rw [leS_iff] at h1 h2 ⊢; exact ge_trans _ _ _ h1 h2) (fun a b => by
      rw [Bool.or_eq_true, leS_iff, leS_iff]
      exact ge_total _ _) ks
def keysS : List (Key × D) → Option (List Str)
  | [] => some []
  | (.inr x, _) :: r => (keysS r).map (x :: ·)
  | (.inl _, _) :: _ => none
theorem keysS_eq : ∀ {kds : List (Key × D)} {ks : List Str}, keysS kds = some ks → kds.map (·.1) = ks.map Sum.inr
  | [], ks, e => by cases e; rfl
  | (.inr x, d) :: r, ks, e => by
    unfold keysS at e
    obtain ⟨cs, e1, e2⟩ := Option.map_eq_some_iff.mp e
    subst e2
    rw [List.map_cons, keysS_eq e1]; rfl
  | (.inl x, d) :: r, ks, e => by cases e
def dSortedD (ds : List D) (h : Mh) : R D := match ds with
  | [.ref n] => match h[n]? with
    | some (.dk kvs) => match keysS kvs with
      | some ks => if ks.length < 64 then .ok (.ref h.length) (h ++ [.lst ((sortS ks).map D.str)]) else .bad
      | none => .bad
    | _ => .bad
  | _ => .bad
section
variable {X : Cx} {W : WX} {e : Expr} {ml : Sg → Mh → R (List D)} {p pos : Pos}
theorem sem_sortedD : SemL X (fun xs H Q => ∃ (a : Addr) (kvs : List (Key × V)) (ks : List Str), xs = [.ref a] ∧ Rd H a (.dK kvs) ∧ kvs.map (·.1) = ks.map Sum.inr ∧ ks.length < 64 ∧ ∀ ys p, ys.Perm ks → sortedS ys = true → H p = none → Q (.ref p) (upd H p (.lst (ys.map V.str)))) dSortedD := by
  intro W σ ρ H h Q vs ds rh rvs w
  unfold dSortedD at w
  split at w
  · split at w
    · rename_i e0
      split at w
      · rename_i ks ek
        split at w
        · rename_i hz
          cases rvs with
          | cons r t =>
            cases t
            cases r with
            | ref r =>
              cases rh.at r e0 with
              | @dk kvs _ hl ke q =>
                refine ⟨_, kvs, ks, rfl, .inl hl, ke.trans (keysS_eq ek), hz, fun ys p hp hs hn => ?_⟩
                rw [sortS_uniq hp hs]
                exact w.alloc rh hn (RO.newList hn (RVs.ofStrs _))
        · exact w.elim
      · exact w.elim
    · exact w.elim
  · exact w.elim
theorem q_sortedD (hc : X.calm = true) (hm : X.mg "sorted" = none) (ha : PL X W [e] ml) (hg : Gl X "sorted" := by rfl) (he : starEach [e] X.env = (false, eval e X.env) :: starEach [] X.env := by rfl) : PM X W (.Call (.Name "sorted" p) [e] [] pos) (mBi dSortedD ml) := q_bi (call_sortedD hc) sem_sortedD hm ha (by decide +kernel) hg (by decide) (by decide) he rfl
end
/-! ### three at once -/
def sPar3 (i j l : Nat) (ml : Sg → Mh → R (List D)) : Sg → Mh → RS := fun sg h => (ml sg h).th sg fun ds h1 => match ds with
  | [p, q, r] => .nx (((sg.set i (some p)).set j (some q)).set l (some r)) h1
  | _ => .bad
section
variable {X : Cx} {W : WX} {a b c : Expr} {pos : Pos}
theorem s_par3 (i j l : Nat) {x y z : Str} {px py pz pt pt2 : Pos} {kt k2} {ml : Sg → Mh → R (List D)} (hN : X.N.Nodup) (ha : PL X W [a, b, c] ml) (hc : X.calm = true := by rfl) (hi : X.N[i]? = some x := by rfl) (hj : X.N[j]? = some y := by rfl) (hl : X.N[l]? = some z := by rfl) (hij : i ≠ j := by decide) (hil : i ≠ l := by decide) (hjl : j ≠ l := by decide)
    (hx : X.env.scope.names.lookup x = some .local := by rfl) (hy : X.env.scope.names.lookup y = some .local := by rfl) (hz : X.env.scope.names.lookup z = some .local := by rfl)
    (hw : swappedStores [.Tuple [.Name x px, .Name y py, .Name z pz] kt pt] (.Tuple [a, b, c] k2 pt2) X.env = pure (some [x, y, z]) := by rfl)
    (hs : swapsWithSole [.Tuple [.Name x px, .Name y py, .Name z pz] kt pt] (.Tuple [a, b, c] k2 pt2) pos.line X.env = pure false := by rfl) : PSM X W (.Assign [.Tuple [.Name x px, .Name y py, .Name z pz] kt pt] (.Tuple [a, b, c] k2 pt2) pos) (sPar3 i j l ml) :=
  ⟨PSimp (ps_par3 hc hN hi hj hl hij hil hjl hx hy hz ha.pa hw hs) fun E σ H ⟨ρ, sg, h, hs, rh, w⟩ => TMl.goS hs rh w fun ρ1 H1 h1 vs ds le rh1 rvs w1 => by
    split at w1
    · cases rvs with
      | cons r1 t => cases t with
        | cons r2 t => cases t with
          | cons r3 t =>
            cases t
            exact ⟨_, _, _, rfl, w1.nxI Le.refl rh1 ((((hs.mono le).set i r1).set j r2).set l r3)⟩
    · exact w1.elim⟩
/-! ### calls by keywords alone, in the parameters' order -/
def KwB (K : PySem.W.Frag) (fd : FuncData) (ps : List Str) : Prop := ∀ (s : Shared) (us : List Value), K.In s.heap → us.length = ps.length → BindsTo s fd ⟨[], ps.zip us⟩ (ps.zip us)
theorem Fun_kwb {K : PySem.W.Frag} {x qual : Str} {st : Stmt} {f : Addr} {fd : FuncData} {ps : List Str} (F : Fun K x qual st f fd)
    (h : ∀ (kV doc pm : Value) (an : Option Addr) (cdv ct : Value) (us : List Value), us.length = ps.length → bindArgs (PySem.W.fnOf x qual (defArgs st) (defBody st) (defScope st) .none kV doc pm an cdv ct) ⟨[], ps.zip us⟩ = pure (ps.zip us)) : KwB K fd ps := by
  obtain ⟨oc, od, kV, doc, pm, an, cdv, ct, osl, rfl, lk, hcd⟩ := F.ex
  exact fun s us _ hl => .of_eq (h kV doc pm an cdv ct us hl)
structure PKM (X : Cx) (W : WX) (kws : List Keyword) (m : Sg → Mh → R (List D)) : Prop where
  pk : PK X kws (TMl X.K X.mg W m)
theorem PKimp {X : Cx} {e : List Keyword} {t t' : TA} (h : PK X e t) (i : ∀ σ H Q, t' σ H Q → t σ H Q) : PK X e t' := ⟨fun pos pins s σ H Q I hw => h.run pos pins s σ H Q I (i _ _ _ hw)⟩
theorem k_nil : PKM X W [] mNil := ⟨PKimp pk_nil fun σ H Q ⟨ρ, sg, h, hs, rh, w⟩ => w.okI Le.refl rh .nil⟩
theorem k_cons {e : Expr} {kws : List Keyword} {nm : Option Str} {kpos : Pos} {m : Sg → Mh → R D} {r : Sg → Mh → R (List D)} (he : PM X W e m) (hr : PKM X W kws r) : PKM X W (⟨nm, e, kpos⟩ :: kws) (mCons m r) :=
  ⟨PKimp (pk_cons he.pe hr.pk) fun σ H Q ⟨ρ, sg, h, hs, rh, w⟩ => TM.go hs rh w fun ρ1 H1 h1 v d le rh1 rv w1 => TMl.go (hs.mono le) rh1 w1 fun ρ2 H2 h2 vs ds le2 rh2 rvs w2 => w2.okI Le.refl rh2 (.cons (rv.mono le2) rvs)⟩
variable {k np : Nat} {f : Addr} {fd : FuncData} {ps : List Str} {fm : FM} {x : Str} {p : Pos} {kws : List Keyword} {ml : Sg → Mh → R (List D)}
theorem q_callK (F : FnOk X.prog X.w X.K X.mg X.base (L2.CX X.prog X.w) k f fd ps (spM X.K X.mg np fm)) (hr : Room k X.A) (tk : Takes X W) (hm : X.mg x = some (.ref f)) (hk : PySem.W.keepIn X.K (.ref f) = true) (hb : KwB X.K fd ps) (ha : PKM X W kws ml)
    (hall : (backToKw pos (keywordEach kws X.env)).all (·.1.isSome) = true := by rfl) (hks : (backToKw pos (keywordEach kws X.env)).filterMap (·.1) = ps := by rfl) (hg : Gl X x := by rfl) (hdb : (x == ("__debug__" : Str)) = false := by decide)
    (hpl : ((backTo pos (starEach [] X.env)).any (·.1) || (backToKw pos (keywordEach kws X.env)).any (·.1.isNone)) = false := by rfl) : PM X W (.Call (.Name x p) [] kws pos) (mCall np fm ml []) := by
  refine ⟨⟨fun pins s σ H Q I h => ?_⟩⟩
  refine wpAny_Call_Name_kw (ld_glob I hg hm ?_ hdb)
  refine PySem.W.callWith_KW0 (h₀ := X.base) I.ok.mod.kin hk hall ?_ hpl
  obtain ⟨ρ, sg, h, hs, rh, w⟩ := h
  refine thn (ha.pk.run pos pins s σ H (fun vs H1 => spM X.K X.mg np fm vs H1 Q (WE W σ)) I (TMl.go hs rh w fun ρ1 H1 h1 vs ds le rh1 rvs w1 => by
    split at w1
    · rename_i hl
      rw [List.append_nil] at hl w1
      exact ⟨by rw [rvs.length]; exact hl, ρ1, _, h1, rvs, rh1, w1.wx fun _ _ _ z => z⟩
    · exact w1.elim)) fun us s2 ⟨vs, H2, I2, r, q2⟩ => ⟨I2.kIn, ?_⟩
  rw [hks]
  have hl : us.length = ps.length := by rw [← r.length]; exact F.len _ _ _ _ q2
  refine wpAny_call (codeAny_mono (F.run X.A X.stack s2 H2 ⟨[], ps.zip us⟩ us vs Q (WE W σ) hr I2.env0 (hb s2 us I2.kIn hl) r q2) fun r s' hq => ?_)
  cases r with
  | error e => exact passAt tk σ pins H2 s2 e s' I2 hq
  | ok fl =>
    cases fl with
    | ret u => exact I2.after hq
    | next => exact False.elim hq
    | brk => exact False.elim hq
    | cont => exact False.elim hq
end
theorem bt_int : bootBuiltins "int" = some (.type "int") := by decide +kernel
theorem bt_str : bootBuiltins "str" = some (.type "str") := by decide +kernel
theorem bt_bool : bootBuiltins "bool" = some (.type "bool") := by decide +kernel
theorem bt_list : bootBuiltins "list" = some (.type "list") := by decide +kernel
theorem bt_tuple : bootBuiltins "tuple" = some (.type "tuple") := by decide +kernel
theorem bt_dict : bootBuiltins "dict" = some (.type "dict") := by decide +kernel
/-! ### dict displays -/
def mPNil : Sg → Mh → R (List (D × D)) := fun _ h => .ok [] h
def mPCons (a b : Sg → Mh → R D) (r : Sg → Mh → R (List (D × D))) : Sg → Mh → R (List (D × D)) := fun sg h => (a sg h).bind fun x h1 => (b sg h1).bind fun y h2 => (r sg h2).bind fun ps h3 => .ok ((x, y) :: ps) h3
def keyPs : List (D × D) → Option (List (Key × D))
  | [] => some []
  | (k, d) :: r => match keyD k, keyPs r with
    | some k, some r => some ((k, d) :: r)
    | _, _ => none
def mergeD (kvs more : List (Key × D)) : List (Key × D) := more.foldl (fun acc kv => putD acc kv.1 kv.2) kvs
def mDisp (r : Sg → Mh → R (List (D × D))) : Sg → Mh → R D := fun sg h => (r sg (h ++ [.dk []])).bind fun ps h2 => match h2[h.length]?, keyPs ps with
  | some (.dk []), some kvs => if kvs.length ≤ 15 then .ok (.ref h.length) (h2.set h.length (.dk (mergeD [] kvs))) else .bad
  | _, _ => .bad
inductive RPs (K : PySem.W.Frag) (mg : Str → Option Value) (ρ : Ren) (H : Hp) : List (V × V) → List (D × D) → Prop
  | nil : RPs K mg ρ H [] []
  | cons {a b : V} {x y : D} {vs : List (V × V)} {ds : List (D × D)} : RV K mg ρ H a x → RV K mg ρ H b y → RPs K mg ρ H vs ds → RPs K mg ρ H ((a, b) :: vs) ((x, y) :: ds)
theorem RPs.mono {K mg ρ H ρ' H'} (le : Le K ρ H ρ' H') : ∀ {vs : List (V × V)} {ds : List (D × D)}, RPs K mg ρ H vs ds → RPs K mg ρ' H' vs ds
  | _, _, .nil => .nil
  | _, _, .cons a b t => .cons (a.mono le) (b.mono le) (RPs.mono le t)
structure PPM (X : Cx) (W : WX) (pos : Pos) (keys : List (Option Expr)) (values : List Expr) (m : Sg → Mh → R (List (D × D))) : Prop where
  ex : ∃ trs : List (TE × TE), PPs X pos keys values trs ∧ ∀ σ H Q, (∃ ρ sg h, RSt X.K X.mg ρ H σ sg ∧ RHp X.K X.mg ρ H h ∧ WG X.K X.mg (RPs X.K X.mg) W σ Q ρ H (m sg h)) → tPairs trs σ H Q
section
variable {X : Cx} {W : WX} {pos : Pos} {keys : List (Option Expr)} {values : List Expr} {mr : Sg → Mh → R (List (D × D))}
theorem d_nil : PPM X W pos [] [] mPNil := ⟨[], pps_nil, fun σ H Q ⟨ρ, sg, h, hs, rh, w⟩ => w.okI Le.refl rh .nil⟩
theorem d_cons {a b : Expr} {ma mb : Sg → Mh → R D} (ha : PM X W a ma) (hb : PM X W b mb) (hr : PPM X W pos keys values mr) : PPM X W pos (some a :: keys) (b :: values) (mPCons ma mb mr) := by
  obtain ⟨trs, h1, h2⟩ := hr.ex
  refine ⟨_, pps_cons ha.pe hb.pe h1, fun σ H Q ⟨ρ, sg, h, hs, rh, w⟩ => ?_⟩
  refine TM.go hs rh w fun ρ1 H1 hh1 v d le rh1 rv w1 => TM.go (hs.mono le) rh1 w1 fun ρ2 H2 hh2 v2 d2 le2 rh2 rv2 w2 => h2 σ H2 _ ⟨ρ2, sg, hh2, (hs.mono le).mono le2, rh2, w2.cut fun ρ3 H3 hh3 vs ds le3 rh3 rps w3 => ?_⟩
  exact w3.okI Le.refl rh3 (.cons (rv.mono (le2.trans le3)) (rv2.mono le3) rps)
theorem keyPs_of {K mg ρ H} : ∀ {vs : List (V × V)} {ds : List (D × D)} {kds : List (Key × D)}, RPs K mg ρ H vs ds → keyPs ds = some kds → ∃ kvs : List (Key × V), vs = kvs.map (fun kv => (kV kv.1, kv.2)) ∧ kvs.map (·.1) = kds.map (·.1) ∧ RVs K mg ρ H (kvs.map (·.2)) (kds.map (·.2)) ∧ kvs.length = kds.length
  | _, _, _, .nil, e => by cases e; exact ⟨[], rfl, rfl, .nil, rfl⟩
  | _, _, _, .cons ra rb t, e => by
    unfold keyPs at e
    split at e
    · rename_i k r e1 e2
      cases e
      obtain ⟨kvs, i1, i2, i3, i4⟩ := keyPs_of t e2
      refine ⟨(k, _) :: kvs, ?_, ?_, .cons rb i3, congrArg (· + 1) i4⟩
      · rw [key_of ra e1, i1]; rfl
      · rw [List.map_cons, List.map_cons, i2]
    · cases e
theorem merge_of {K mg ρ H} : ∀ {more : List (Key × V)} {moreD : List (Key × D)} {kvs : List (Key × V)} {kds : List (Key × D)}, more.map (·.1) = moreD.map (·.1) → RVs K mg ρ H (more.map (·.2)) (moreD.map (·.2)) → kvs.map (·.1) = kds.map (·.1) → RVs K mg ρ H (kvs.map (·.2)) (kds.map (·.2)) →
    (mergeK kvs more).map (·.1) = (mergeD kds moreD).map (·.1) ∧ RVs K mg ρ H ((mergeK kvs more).map (·.2)) ((mergeD kds moreD).map (·.2))
  | [], [], _, _, _, _, e, r => ⟨e, r⟩
  | [], _ :: _, _, _, e, _, _, _ => by cases e
  | _ :: _, [], _, _, e, _, _, _ => by cases e
  | p :: more, q :: moreD, kvs, kds, e, r, e', r' => by
    have e1 : p.1 = q.1 := (List.cons.inj e).1
    cases r with
    | cons r1 t =>
      obtain ⟨p1, p2⟩ := put_of (k := q.1) r1 e' r'
      have := merge_of (List.cons.inj e).2 t p1 p2
      unfold mergeK mergeD at this ⊢
      rw [List.foldl_cons, List.foldl_cons, e1]
      exact this
theorem q_disp (h : PPM X W pos keys values mr) (hall : keys.all (·.isSome) = true := by rfl) (hl : keys.length = values.length := by rfl) (h0 : keys ≠ [] := by intro z; cases z) (h15 : keys.length ≤ 15 := by decide) : PM X W (.Dict keys values pos) (mDisp mr) := by
  obtain ⟨trs, h1, h2⟩ := h.ex
  refine ⟨PEimp (pe_disp h1 hall hl h0 h15) fun σ H Q ⟨ρ, sg, h, hs, rh, w⟩ => fun p hp => ?_⟩
  have rh1 : RHp X.K X.mg (ρ ++ [p]) (upd H p (.dK [])) (h ++ [.dk []]) := rh.grow hp (.dk upd_same rfl .nil)
  have le1 : Le X.K ρ H (ρ ++ [p]) (upd H p (.dK [])) := Le.grow hp
  have hn : (ρ ++ [p])[h.length]? = some p := rh.at_new
  refine h2 σ _ _ ⟨_, sg, _, hs.mono le1, rh1, (w.mono le1).cut fun ρ2 H2 hh2 vs ds le2 rh2 rps w2 => ?_⟩
  split at w2
  · rename_i kds e0 ek
    split at w2
    · rename_i hz
      have hn2 := le2.pre _ _ hn
      cases rh2.at hn2 e0 with
      | @dk kvs0 _ hl0 ke q =>
        have z : kvs0 = [] := by cases kvs0 with
          | nil => rfl
          | cons _ _ => cases ke
        subst z
        obtain ⟨kvs, i1, i2, i3, i4⟩ := keyPs_of rps ek
        obtain ⟨p1, p2⟩ := merge_of (kvs := []) (kds := []) i2 i3 rfl .nil
        have le4 : Le X.K ρ2 H2 ρ2 (upd H2 p (.dK (mergeK [] kvs))) := Le.write hl0 trivial
        exact ⟨hl0, kvs, i1, by rw [i4]; exact hz, w2.okI le4 (rh2.write hn2 e0 rfl rfl hl0 trivial (.dk upd_same p1 (p2.mono le4))) (.ref (le4.pre _ _ hn2))⟩
    · exact w2.elim
  · exact w2.elim
end
end Mo

namespace Mo
open PySem PySem.Spec PyProof.Rows L2
/-! ### the end of a law -/
def spLaw (K : PySem.W.Frag) : Sp := fun vs H Q _ => ∃ (a : Addr) (ns : List Int), vs = [.ref a] ∧ FzL K H a (ns.map V.int) ∧ ns.length ≤ 63 ∧ ∀ H', Q (.bl true) H'
theorem law_of {P : Program} {w : World} {K : PySem.W.Frag} {mg : Str → Option Value} {base : Heap} {k : Nat} {f : Addr} {fd : FuncData} {x : Str} {fm : FM} (F : FnOk P w K mg base (L2.CX P w) k f fd [x] (spM K mg 1 fm))
    (ht : ∀ ns : List Int, ns.length ≤ 63 → ∃ h', fm [.ref 0] [.fls (ns.map D.int)] = .ok (.bl true) h') : FnOk P w K mg base (L2.CX P w) k f fd [x] (spLaw K) := by
  refine F.imp fun vs H Q E ⟨a, ns, e, hz, hl, q⟩ => ?_
  subst e
  refine ⟨rfl, [a], [.ref 0], [.fls (ns.map D.int)], .cons (.ref rfl) .nil, ⟨rfl, fun n b o e1 e2 => ?_, fun n m b o u e1 e2 e3 e4 m1 m2 => ?_⟩, ?_⟩
  · cases n with
    | zero => cases e1; cases e2; exact .fls hz (RVs.ofInts ns)
    | succ n => cases e1
  · cases n with
    | zero => cases e3; cases m1
    | succ n => cases e1
  · obtain ⟨h', e⟩ := ht ns hl
    rw [e]
    intro ρ' H' v le rh rv
    cases rv
    exact q H'
theorem fz_of {K : PySem.W.Frag} {H : Hp} {a : Addr} {xs : List V} (o : Only H) (h : SqL K H a xs) : FzL K H a xs := by
  rcases h with (h | ⟨u, h⟩) | h
  · rcases o a with z | ⟨o', ys, z⟩
    · rw [h] at z; cases z
    · rw [h] at z; cases z
  · exact .inl ⟨u, h⟩
  · exact .inr h
theorem cx_no {P : Program} {w : World} {H : Hp} {s : Shared} {e : Value} {s' : Shared} (h : L2.CX P w [] H s (fun _ _ _ => False) e s') : False := by
  obtain ⟨_, _, _, _, _, _, _, _, _, _, _, _, z⟩ := h
  exact z.elim
end Mo

namespace Mo
open PySem PySem.Spec PyProof.Rows L2
/-! ### running the functions: equations for simp -/
theorem th_nx {sg h f} : (RS.nx sg h).th f = f sg h := rfl
theorem th_rt {d h f} : (RS.rt d h).th f = .rt d h := rfl
theorem th_bad {f} : (RS.bad).th f = .bad := rfl
theorem th_bk {sg h f} : (RS.bk sg h).th f = .bk sg h := rfl
theorem th_ct {sg h f} : (RS.ct sg h).th f = .ct sg h := rfl
theorem end_rt {d h} : (RS.rt d h).end = .ok d h := rfl
theorem end_nx {sg h} : (RS.nx sg h).end = .ok .non h := rfl
theorem e_seq (m n sg h) : sSeq m n sg h = (m sg h).th n := rfl
theorem e_lit (d sg h) : mLit d sg h = .ok d h := rfl
theorem e_var (i sg h) : mVar i sg h = match sg[i]? with
  | some (some d) => .ok d h
  | _ => .bad := rfl
theorem e_m2 (f a b sg h) : m2 f a b sg h = (a sg h).bind fun x h1 => (b sg h1).bind fun y h2 => f x y h2 := rfl
theorem e_m1 (f a sg h) : m1 f a sg h = (a sg h).bind f := rfl
theorem e_test (m sg h) : mTest m sg h = (m sg h).bind fun d h1 => match d with
  | .bl b => .ok b h1
  | _ => .bad := rfl
theorem e_set (i m sg h) : sSet i m sg h = (m sg h).th sg fun d h1 => .nx (sg.set i (some d)) h1 := rfl
theorem e_ret (m sg h) : sRet m sg h = (m sg h).th sg fun d h1 => .rt d h1 := rfl
theorem e_if (c m n sg h) : sIf c m n sg h = (c sg h).th sg fun b h1 => if b = true then m sg h1 else n sg h1 := rfl
theorem e_next (sg h) : sNext sg h = .nx sg h := rfl
theorem e_nil (sg h) : mNil sg h = .ok [] h := rfl
theorem e_cons (m r sg h) : mCons m r sg h = (m sg h).bind fun d h1 => (r sg h1).bind fun ds h2 => .ok (d :: ds) h2 := rfl
theorem e_bi (f ml sg h) : mBi f ml sg h = (ml sg h).bind f := rfl
theorem e_put (f mo mi mv sg h) : sPut f mo mi mv sg h = (mv sg h).th sg fun v h1 => (mo sg h1).th sg fun x h2 => (mi sg h2).th sg fun k h3 => toRS sg (f x k v h3) := rfl
theorem e_call (np fm ml dds sg h) : mCall np fm ml dds sg h = (ml sg h).bind fun ds h1 => if (ds ++ dds).length = np then fm (ds ++ dds) h1 else .bad := rfl
theorem e_andT (m n sg h) : mAndT m n sg h = (m sg h).bind fun b h1 => if b = true then n sg h1 else .ok false h1 := rfl
theorem e_orT (m n sg h) : mOrT m n sg h = (m sg h).bind fun b h1 => if b = true then .ok true h1 else n sg h1 := rfl
theorem e_notT (m sg h) : mNotT m sg h = (m sg h).bind fun b h1 => .ok (!b) h1 := rfl
theorem e_tru (m sg h) : mTru m sg h = (m sg h).bind dTru := rfl
theorem e_ite (m p q sg h) : mIte m p q sg h = (m sg h).bind fun b h1 => if b = true then p sg h1 else q sg h1 := rfl
theorem e_and (m n sg h) : mAnd m n sg h = (m sg h).bind fun d h1 => (dTru d h1).bind fun b h2 => if b = true then n sg h2 else .ok d h2 := rfl
theorem e_or (m n sg h) : mOr m n sg h = (m sg h).bind fun d h1 => (dTru d h1).bind fun b h2 => if b = true then .ok d h2 else n sg h2 := rfl
theorem e_not (m sg h) : mNot m sg h = (m sg h).bind fun d h1 => (dTru d h1).bind fun b h2 => .ok (.bl (!b)) h2 := rfl
theorem e_tup (r sg h) : mTup r sg h = (r sg h).bind fun ds h1 => if ds.length ≤ sizeLine then .ok (.tup ds) h1 else .bad := rfl
theorem e_lst (r sg h) : mLst r sg h = (r sg h).bind fun ds h1 => if ds.length ≤ sizeLine then .ok (.ref h1.length) (h1 ++ [.lst ds]) else .bad := rfl
theorem e_expr (m sg h) : sExpr m sg h = (m sg h).th sg fun _ h1 => .nx sg h1 := rfl
theorem e_mt (T f mo ml sg h) : mMt T f mo ml sg h = (mo sg h).bind fun x h1 => if isTy T x h1 = true then (ml sg h1).bind fun ds h2 => f x ds h2 else .bad := rfl
theorem e_sl (m lo hi sg h) : mSl m lo hi sg h = (m sg h).bind fun x h1 => (lo sg h1).bind fun l h2 => (hi sg h2).bind fun u h3 => dSl x l u h3 := rfl
theorem e_part (m sg h) : mPart m sg h = (m sg h).bind fun d h1 => match d with
  | .int i => .ok (some i) h1
  | _ => .bad := rfl
theorem e_noP (sg h) : mNoP sg h = .ok none h := rfl
theorem e_chain (f g ma mb mc sg h) : mChain f g ma mb mc sg h = (ma sg h).bind fun x h1 => (mb sg h1).bind fun y h2 => (f x y h2).bind fun z h3 => match z with
  | .bl true => (mc sg h3).bind fun w h4 => g y w h4
  | .bl false => .ok (.bl false) h3
  | _ => .bad := rfl
theorem e_par (i j ml sg h) : sPar i j ml sg h = (ml sg h).th sg fun ds h1 => match ds with
  | [p, q] => .nx ((sg.set i (some p)).set j (some q)) h1
  | _ => .bad := rfl
theorem e_par3 (i j l ml sg h) : sPar3 i j l ml sg h = (ml sg h).th sg fun ds h1 => match ds with
  | [p, q, r] => .nx (((sg.set i (some p)).set j (some q)).set l (some r)) h1
  | _ => .bad := rfl
theorem e_asg (g m sg h) : sAsg g m sg h = (m sg h).th sg fun d h1 => match g d sg with
  | some sg' => .nx sg' h1
  | none => .bad := rfl
theorem e_for (mi g body sg h) : sFor mi g body sg h = (mi sg h).th sg fun s h1 => forL s g body s.items 0 sg h1 := rfl
theorem e_lc (mi g mt me vs sg h) : mLc mi g mt me vs sg h = (mi sg h).bind fun s h1 => lcL s g mt me (wipeD sg vs) h1.length s.items 0 (h1 ++ [.lst []]) := rfl
theorem e_iter (m sg h) : mIter m sg h = (m sg h).bind dIter := rfl
theorem e_range1 (m sg h) : mRange1 m sg h = (m sg h).bind fun d h1 => match d with
  | .int j => if -(2 ^ 62) ≤ j ∧ j < 2 ^ 62 then .ok (srcR 0 j.toNat) h1 else .bad
  | _ => .bad := rfl
theorem e_zip (ml sg h) : mZip ml sg h = (ml sg h).bind dZip := rfl
theorem e_dnew (sg h) : mDNew sg h = .ok (.ref h.length) (h ++ [.dk []]) := rfl
theorem e_yes (sg h) : mYes sg h = .ok true h := rfl
theorem e_run (n ms ds h) : runF n ms ds h = (ms (startD n ds) h).end := rfl
theorem b_ok {α β : Type} {a : α} {h : Mh} {f : α → Mh → R β} : (R.ok a h).bind f = f a h := rfl
theorem b_bad {α β : Type} {f : α → Mh → R β} : (R.bad : R α).bind f = .bad := rfl
theorem t_ok {α : Type} {a : α} {h : Mh} {sg : Sg} {f : α → Mh → RS} : (R.ok a h).th sg f = f a h := rfl
theorem t_bad {α : Type} {sg : Sg} {f : α → Mh → RS} : (R.bad : R α).th sg f = .bad := rfl
theorem n_ok {α : Type} {a : α} {h : Mh} : (R.ok a h).nox = .ok a h := rfl
theorem line_le : (1000 : Nat) ≤ sizeLine := by decide
theorem toRS_some {sg h} : toRS sg (some h) = .nx sg h := rfl
@[simp] theorem i0 {g x y h} : dI0 g (.int x) (.int y) h = .ok (g x y) h := rfl
@[simp] theorem iI {c g x y h} : dII c g (.int x) (.int y) h = if c x y = true then .ok (g x y) h else .bad := rfl
theorem b_ite {α β : Type} {c : Prop} [Decidable c] {a b : R α} {f : α → Mh → R β} : (if c then a else b).bind f = if c then a.bind f else b.bind f := by split <;> rfl
theorem t_ite' {α : Type} {c : Prop} [Decidable c] {a b : R α} {sg : Sg} {f : α → Mh → RS} : (if c then a else b).th sg f = if c then a.th sg f else b.th sg f := by split <;> rfl
theorem th_ite {c : Prop} [Decidable c] {a b : RS} {f : Sg → Mh → RS} : (if c then a else b).th f = if c then a.th f else b.th f := by split <;> rfl
theorem end_ite {c : Prop} [Decidable c] {a b : RS} : (if c then a else b).end = if c then a.end else b.end := by split <;> rfl
@[simp] theorem add_ii {x y h} : dAdd (.int x) (.int y) h = .ok (.int (x + y)) h := rfl
@[simp] theorem sub_ii {x y h} : dSub (.int x) (.int y) h = .ok (.int (x - y)) h := rfl
@[simp] theorem band_ii {x y h} : dBand (.int x) (.int y) h = .ok (.int (Builtin.bitAnd x y)) h := rfl
@[simp] theorem bor_ii {x y h} : dBor (.int x) (.int y) h = .ok (.int (Builtin.bitOr x y)) h := rfl
@[simp] theorem bxor_ii {x y h} : dBxor (.int x) (.int y) h = .ok (.int (Builtin.bitXor x y)) h := rfl
theorem mul_ii {x y h} (c : cMul x y = true) : dMul (.int x) (.int y) h = .ok (.int (x * y)) h := if_pos c
theorem cMul_r {x y : Int} (h1 : -(2 ^ 64) < y) (h2 : y < 2 ^ 64) : cMul x y = true := decide_eq_true (.inr ⟨h1, h2⟩)
theorem cMul_l {x y : Int} (h1 : -(2 ^ 64) < x) (h2 : x < 2 ^ 64) : cMul x y = true := decide_eq_true (.inl ⟨h1, h2⟩)
theorem mod_ii {x y h} (c : 0 < y) : dMod (.int x) (.int y) h = .ok (.int (x % y)) h := if_pos (decide_eq_true c)
theorem fdiv_ii {x y h} (c : 0 < y) (d : y < 1073741824) : dFdiv (.int x) (.int y) h = .ok (.int (x / y)) h := if_pos (decide_eq_true ⟨c, d⟩)
theorem pow_ii {x y h} (c : 0 ≤ y) (d : y ≤ 1000000) (e : x.natAbs < 2 ^ 64) : dPow (.int x) (.int y) h = .ok (.int (x ^ y.toNat)) h := if_pos (decide_eq_true ⟨c, d, e⟩)
theorem shl_ii {x y h} (c : 0 ≤ y) (d : y ≤ 1000000) (e : x.natAbs < 2 ^ 64) : dShl (.int x) (.int y) h = .ok (.int (x * 2 ^ y.toNat)) h := if_pos (decide_eq_true ⟨c, d, e⟩)
@[simp] theorem int_i {x h} : dInt [.int x] h = .ok (.int x) h := rfl
@[simp] theorem lt_ii {x y h} : dLt (.int x) (.int y) h = .ok (.bl (decide (x < y))) h := rfl
@[simp] theorem le_ii {x y h} : dLe (.int x) (.int y) h = .ok (.bl (decide (x ≤ y))) h := rfl
@[simp] theorem gt_ii {x y h} : dGt (.int x) (.int y) h = .ok (.bl (decide (y < x))) h := rfl
@[simp] theorem ge_ii {x y h} : dGe (.int x) (.int y) h = .ok (.bl (decide (y ≤ x))) h := rfl
@[simp] theorem eq_ii {x y h} : dE false (.int x) (.int y) h = .ok (.bl (decide (x = y))) h := rfl
@[simp] theorem ne_ii {x y h} : dE true (.int x) (.int y) h = .ok (.bl (!decide (x = y))) h := rfl
@[simp] theorem eq_ss {x y h} : dE false (.str x) (.str y) h = .ok (.bl (decide (x = y))) h := rfl
@[simp] theorem ne_ss {x y h} : dE true (.str x) (.str y) h = .ok (.bl (!decide (x = y))) h := rfl
@[simp] theorem eq_bb {x y h} : dE false (.bl x) (.bl y) h = .ok (.bl (decide (x = y))) h := rfl
@[simp] theorem ne_bb {x y h} : dE true (.bl x) (.bl y) h = .ok (.bl (!decide (x = y))) h := rfl
@[simp] theorem tru_b {b h} : dTru (.bl b) h = .ok b h := rfl
@[simp] theorem neg_i {x h} : dNeg (.int x) h = .ok (.int (-x)) h := rfl
@[simp] theorem ix_tup {ds : List D} {i : Int} {h} : dIx (.tup ds) (.int i) h = match atI ds i with
  | some d => .ok d h
  | none => .bad := rfl
theorem ix_lst {n : Nat} {ds : List D} {i : Int} {h : Mh} (e : h[n]? = some (.lst ds)) : dIx (.ref n) (.int i) h = match atI ds i with
  | some d => .ok d h
  | none => .bad := by simp only [dIx, e] <;> rfl
theorem len_lst {n : Nat} {ds : List D} {h : Mh} (e : h[n]? = some (.lst ds)) : dLen [.ref n] h = .ok (.int (ds.length : Nat)) h := by simp only [dLen, e]
theorem putL_at {n : Nat} {ds : List D} {i : Int} {v : D} {h : Mh} {j : Nat} (e : h[n]? = some (.lst ds)) (q : ixN ds.length i = some j) : dPutL (.ref n) (.int i) v h = some (h.set n (.lst (ds.set j v))) := by simp only [dPutL, e, q, Option.map_some]
theorem atI_of {ds : List D} {i : Int} {j : Nat} {d : D} (e : i = (j : Int)) (q : ds[j]? = some d) : atI ds i = some d := by rw [e]; exact atI_nat q
theorem set_at {h : Mh} {n : Nat} {o : MO} (l : n < h.length) : (h.set n o)[n]? = some o := List.getElem?_set_self l
theorem set_off {h : Mh} {n m : Nat} {o : MO} (l : n ≠ m) : (h.set n o)[m]? = h[m]? := List.getElem?_set_ne l
end Mo

namespace Mo
open PySem PySem.Spec PyProof.Rows L2
/-! ### what holds behind a run -/
structure Tg {β : Type} (x : β) : Type where
inductive R.wp {α : Type} (r : R α) (P : α → Mh → Prop) (_z : Tg P := ⟨⟩) : Prop
  | mk (a : α) (h : Mh) (e : r = .ok a h) (p : P a h) : R.wp r P _z
inductive RS.wp (r : RS) (N : Sg → Mh → Prop) (T : D → Mh → Prop) (_z : Tg N := ⟨⟩) (_y : Tg T := ⟨⟩) : Prop
  | nx (sg : Sg) (h : Mh) (e : r = .nx sg h) (p : N sg h) : RS.wp r N T _z _y
  | rt (d : D) (h : Mh) (e : r = .rt d h) (p : T d h) : RS.wp r N T _z _y
@[simp] theorem wp_ok {α : Type} {a : α} {h : Mh} {P : α → Mh → Prop} {z} : (R.ok a h).wp P z = P a h := propext ⟨fun w => (match w with | .mk _ _ rfl p => p), fun p => ⟨_, _, rfl, p⟩⟩
@[simp] theorem wp_bad {α : Type} {P : α → Mh → Prop} {z} : (R.bad : R α).wp P z = False := propext ⟨fun w => (match w with | .mk _ _ e _ => nomatch e), False.elim⟩
@[simp] theorem wp_exc {α : Type} {c fs h} {P : α → Mh → Prop} {z} : (R.exc c fs h : R α).wp P z = False := propext ⟨fun w => (match w with | .mk _ _ e _ => nomatch e), False.elim⟩
@[simp] theorem wp_nx {sg h N T z y} : (RS.nx sg h).wp N T z y = N sg h := propext ⟨fun w => (match w with
  | .nx _ _ rfl p => p
  | .rt _ _ e _ => nomatch e), fun p => RS.wp.nx _ _ rfl p⟩
@[simp] theorem wp_rt {d h N T z y} : (RS.rt d h).wp N T z y = T d h := propext ⟨fun w => (match w with
  | .nx _ _ e _ => nomatch e
  | .rt _ _ rfl p => p), fun p => RS.wp.rt _ _ rfl p⟩
theorem wps_no {r : RS} {N T z y} (h1 : ∀ sg h, r ≠ .nx sg h) (h2 : ∀ d h, r ≠ .rt d h) : r.wp N T z y = False := propext ⟨fun w => (match w with
  | .nx _ _ e _ => h1 _ _ e
  | .rt _ _ e _ => h2 _ _ e), False.elim⟩
@[simp] theorem wp_sbad {N T z y} : (RS.bad).wp N T z y = False := wps_no (fun _ _ e => by cases e) (fun _ _ e => by cases e)
@[simp] theorem wp_sbk {sg h N T z y} : (RS.bk sg h).wp N T z y = False := wps_no (fun _ _ e => by cases e) (fun _ _ e => by cases e)
@[simp] theorem wp_sct {sg h N T z y} : (RS.ct sg h).wp N T z y = False := wps_no (fun _ _ e => by cases e) (fun _ _ e => by cases e)
@[simp] theorem wp_sexc {c fs sg h N T z y} : (RS.exc c fs sg h).wp N T z y = False := wps_no (fun _ _ e => by cases e) (fun _ _ e => by cases e)
@[simp ↓] theorem wp_bind {α β : Type} {r : R α} {f : α → Mh → R β} {P : β → Mh → Prop} {z} : (r.bind f).wp P z = r.wp fun a h => (f a h).wp P := by
  cases r with
  | ok a h => rw [wp_ok]; rfl
  | exc c fs h => rw [wp_exc]; exact wp_exc
  | bad => rw [wp_bad]; exact wp_bad
@[simp ↓] theorem wp_th {α : Type} {r : R α} {sg : Sg} {f : α → Mh → RS} {N T z y} : (r.th sg f).wp N T z y = r.wp fun a h => (f a h).wp N T := by
  cases r with
  | ok a h => rw [wp_ok]; rfl
  | exc c fs h => rw [wp_exc]; exact wp_sexc
  | bad => rw [wp_bad]; exact wp_sbad
@[simp ↓] theorem wp_ths {r : RS} {f : Sg → Mh → RS} {N T z y} : (r.th f).wp N T z y = r.wp (fun sg h => (f sg h).wp N T) T := by
  cases r with
  | nx sg h => rw [wp_nx]; rfl
  | rt d h => rw [wp_rt]; exact wp_rt
  | bk sg h => rw [wp_sbk]; exact wp_sbk
  | ct sg h => rw [wp_sct]; exact wp_sct
  | exc c fs sg h => rw [wp_sexc]; exact wp_sexc
  | bad => rw [wp_sbad]; exact wp_sbad
@[simp ↓] theorem wp_end {r : RS} {P z} : r.end.wp P z = r.wp (fun _ h => P .non h) P := by
  cases r with
  | nx sg h => rw [wp_nx]; exact wp_ok
  | rt d h => rw [wp_rt]; exact wp_ok
  | bk sg h => rw [wp_sbk]; exact wp_bad
  | ct sg h => rw [wp_sct]; exact wp_bad
  | exc c fs sg h => rw [wp_sexc]; exact wp_exc
  | bad => rw [wp_sbad]; exact wp_bad
@[simp ↓] theorem wp_nox {α : Type} {r : R α} {P : α → Mh → Prop} {z} : r.nox.wp P z = r.wp P := by
  cases r with
  | ok a h => rfl
  | exc c fs h => rw [wp_exc]; exact wp_bad
  | bad => rfl
@[simp] theorem wp_ite {α : Type} {c : Prop} [Decidable c] {a b : R α} {P : α → Mh → Prop} {z} : (if c then a else b).wp P z = if c then a.wp P else b.wp P := by split <;> rfl
@[simp] theorem wps_ite {c : Prop} [Decidable c] {a b : RS} {N T z y} : (if c then a else b).wp N T z y = if c then a.wp N T else b.wp N T := by split <;> rfl
@[simp] theorem wp_oite {c : Prop} [Decidable c] {o : Option Mh} {N : Mh → Prop} : (match (if c then o else none) with
  | some h => N h
  | none => False) = if c then (match o with
  | some h => N h
  | none => False) else False := by by_cases hc : c <;> simp [hc]
theorem R.wp.mono {α : Type} {r : R α} {P Q : α → Mh → Prop} {z z'} (w : r.wp P z) (k : ∀ a h, P a h → Q a h) : r.wp Q z' := by
  cases w with
  | mk a h e p => exact .mk a h e (k a h p)
theorem RS.wp.mono {r : RS} {N N' T T' z y z' y'} (w : r.wp N T z y) (k : ∀ sg h, N sg h → N' sg h) (l : ∀ d h, T d h → T' d h) : r.wp N' T' z' y' := by
  cases w with
  | nx sg h e p => exact .nx sg h e (k _ _ p)
  | rt d h e p => exact .rt d h e (l _ _ p)
theorem R.wp.out {α : Type} {r : R α} {P : α → Mh → Prop} {z} (w : r.wp P z) : ∃ a h, r = .ok a h ∧ P a h := by
  cases w with
  | mk a h e p => exact ⟨a, h, e, p⟩
theorem wp_of {α : Type} {r : R α} {a : α} {h : Mh} {P : α → Mh → Prop} {z} (e : r = .ok a h) (p : P a h) : r.wp P z := .mk a h e p
structure LenC (n : Nat) : Prop where
  r : n < sizeLine
structure LenE (n : Nat) : Prop where
  r : n ≤ sizeLine
@[simp] theorem lenC {n : Nat} (h : n < 1000) : LenC n := ⟨Nat.lt_of_lt_of_le h line_le⟩
@[simp] theorem lenE {n : Nat} (h : n ≤ 1000) : LenE n := ⟨Nat.le_trans h line_le⟩
/-! the constructs -/
@[simp ↓] theorem w_seq {m n sg h} {N : Sg → Mh → Prop} {T : D → Mh → Prop} {z : Tg N} {y : Tg T} : RS.wp (sSeq m n sg h) N T z y = RS.wp ((m sg h).th n) N T := rfl
@[simp ↓] theorem w_lit {d sg h} {P} {z : Tg P} : R.wp (mLit d sg h) P z = R.wp (.ok d h) P := rfl
@[simp ↓] theorem w_var {i sg h} {P} {z : Tg P} : R.wp (mVar i sg h) P z = R.wp (match sg[i]? with
  | some (some d) => .ok d h
  | _ => .bad) P := rfl
@[simp ↓] theorem w_m2 {f a b sg h} {P} {z : Tg P} : R.wp (m2 f a b sg h) P z = R.wp ((a sg h).bind fun x h1 => (b sg h1).bind fun y h2 => f x y h2) P := rfl
@[simp ↓] theorem w_m1 {f a sg h} {P} {z : Tg P} : R.wp (m1 f a sg h) P z = R.wp ((a sg h).bind f) P := rfl
@[simp ↓] theorem w_test {m sg h} {P} {z : Tg P} : R.wp (mTest m sg h) P z = R.wp ((m sg h).bind fun d h1 => match d with
  | .bl b => .ok b h1
  | _ => .bad) P := rfl
@[simp ↓] theorem w_set {i m sg h} {N : Sg → Mh → Prop} {T : D → Mh → Prop} {z : Tg N} {y : Tg T} : RS.wp (sSet i m sg h) N T z y = RS.wp ((m sg h).th sg fun d h1 => .nx (sg.set i (some d)) h1) N T := rfl
@[simp ↓] theorem w_ret {m sg h} {N : Sg → Mh → Prop} {T : D → Mh → Prop} {z : Tg N} {y : Tg T} : RS.wp (sRet m sg h) N T z y = RS.wp ((m sg h).th sg fun d h1 => .rt d h1) N T := rfl
@[simp ↓] theorem w_if {c m n sg h} {N : Sg → Mh → Prop} {T : D → Mh → Prop} {z : Tg N} {y : Tg T} : RS.wp (sIf c m n sg h) N T z y = RS.wp ((c sg h).th sg fun b h1 => if b = true then m sg h1 else n sg h1) N T := rfl
@[simp ↓] theorem w_next {sg h} {N : Sg → Mh → Prop} {T : D → Mh → Prop} {z : Tg N} {y : Tg T} : RS.wp (sNext sg h) N T z y = RS.wp (.nx sg h) N T := rfl
@[simp ↓] theorem w_nil {sg h} {P} {z : Tg P} : R.wp (mNil sg h) P z = R.wp (.ok [] h) P := rfl
@[simp ↓] theorem w_cons {m r sg h} {P} {z : Tg P} : R.wp (mCons m r sg h) P z = R.wp ((m sg h).bind fun d h1 => (r sg h1).bind fun ds h2 => .ok (d :: ds) h2) P := rfl
@[simp ↓] theorem w_bi {f ml sg h} {P} {z : Tg P} : R.wp (mBi f ml sg h) P z = R.wp ((ml sg h).bind f) P := rfl
@[simp ↓] theorem w_put {f mo mi mv sg h} {N : Sg → Mh → Prop} {T : D → Mh → Prop} {z : Tg N} {y : Tg T} : RS.wp (sPut f mo mi mv sg h) N T z y = RS.wp ((mv sg h).th sg fun v h1 => (mo sg h1).th sg fun x h2 => (mi sg h2).th sg fun k h3 => toRS sg (f x k v h3)) N T := rfl
@[simp ↓] theorem w_call {np fm ml dds sg h} {P} {z : Tg P} : R.wp (mCall np fm ml dds sg h) P z = R.wp ((ml sg h).bind fun ds h1 => if (ds ++ dds).length = np then fm (ds ++ dds) h1 else .bad) P := rfl
@[simp ↓] theorem w_andT {m n sg h} {P} {z : Tg P} : R.wp (mAndT m n sg h) P z = R.wp ((m sg h).bind fun b h1 => if b = true then n sg h1 else .ok false h1) P := rfl
@[simp ↓] theorem w_orT {m n sg h} {P} {z : Tg P} : R.wp (mOrT m n sg h) P z = R.wp ((m sg h).bind fun b h1 => if b = true then .ok true h1 else n sg h1) P := rfl
@[simp ↓] theorem w_notT {m sg h} {P} {z : Tg P} : R.wp (mNotT m sg h) P z = R.wp ((m sg h).bind fun b h1 => .ok (!b) h1) P := rfl
@[simp ↓] theorem w_tru {m sg h} {P} {z : Tg P} : R.wp (mTru m sg h) P z = R.wp ((m sg h).bind dTru) P := rfl
@[simp ↓] theorem w_ite {m p q sg h} {P} {z : Tg P} : R.wp (mIte m p q sg h) P z = R.wp ((m sg h).bind fun b h1 => if b = true then p sg h1 else q sg h1) P := rfl
@[simp ↓] theorem w_and {m n sg h} {P} {z : Tg P} : R.wp (mAnd m n sg h) P z = R.wp ((m sg h).bind fun d h1 => (dTru d h1).bind fun b h2 => if b = true then n sg h2 else .ok d h2) P := rfl
@[simp ↓] theorem w_or {m n sg h} {P} {z : Tg P} : R.wp (mOr m n sg h) P z = R.wp ((m sg h).bind fun d h1 => (dTru d h1).bind fun b h2 => if b = true then .ok d h2 else n sg h2) P := rfl
@[simp ↓] theorem w_not {m sg h} {P} {z : Tg P} : R.wp (mNot m sg h) P z = R.wp ((m sg h).bind fun d h1 => (dTru d h1).bind fun b h2 => .ok (.bl (!b)) h2) P := rfl
open Classical in
@[simp ↓] theorem w_tup {r sg h} {P} {z : Tg P} : R.wp (mTup r sg h) P z = R.wp (r sg h) fun ds h1 => if LenE ds.length then P (.tup ds) h1 else False := by
  rw [e_tup, wp_bind]
  cases r sg h with
  | ok ds h1 =>
    by_cases c : LenE ds.length
    · simp only [wp_ok, if_pos c, if_pos c.r]
    · simp only [wp_ok, if_neg c, if_neg (fun z => c ⟨z⟩), wp_bad]
  | exc c fs h1 => rw [wp_exc, wp_exc]
  | bad => rw [wp_bad, wp_bad]
open Classical in
@[simp ↓] theorem w_lst {r sg h} {P} {z : Tg P} : R.wp (mLst r sg h) P z = R.wp (r sg h) fun ds h1 => if LenE ds.length then P (.ref h1.length) (h1 ++ [.lst ds]) else False := by
  rw [e_lst, wp_bind]
  cases r sg h with
  | ok ds h1 =>
    by_cases c : LenE ds.length
    · simp only [wp_ok, if_pos c, if_pos c.r]
    · simp only [wp_ok, if_neg c, if_neg (fun z => c ⟨z⟩), wp_bad]
  | exc c fs h1 => rw [wp_exc, wp_exc]
  | bad => rw [wp_bad, wp_bad]
@[simp ↓] theorem w_expr {m sg h} {N : Sg → Mh → Prop} {T : D → Mh → Prop} {z : Tg N} {y : Tg T} : RS.wp (sExpr m sg h) N T z y = RS.wp ((m sg h).th sg fun _ h1 => .nx sg h1) N T := rfl
@[simp ↓] theorem w_mt {T f mo ml sg h} {P} {z : Tg P} : R.wp (mMt T f mo ml sg h) P z = R.wp ((mo sg h).bind fun x h1 => if isTy T x h1 = true then (ml sg h1).bind fun ds h2 => f x ds h2 else .bad) P := rfl
@[simp ↓] theorem w_sl {m lo hi sg h} {P} {z : Tg P} : R.wp (mSl m lo hi sg h) P z = R.wp ((m sg h).bind fun x h1 => (lo sg h1).bind fun l h2 => (hi sg h2).bind fun u h3 => dSl x l u h3) P := rfl
@[simp ↓] theorem w_part {m sg h} {P} {z : Tg P} : R.wp (mPart m sg h) P z = R.wp ((m sg h).bind fun d h1 => match d with
  | .int i => .ok (some i) h1
  | _ => .bad) P := rfl
@[simp ↓] theorem w_noP {sg h} {P} {z : Tg P} : R.wp (mNoP sg h) P z = R.wp (.ok none h) P := rfl
@[simp ↓] theorem w_chain {f g ma mb mc sg h} {P} {z : Tg P} : R.wp (mChain f g ma mb mc sg h) P z = R.wp ((ma sg h).bind fun x h1 => (mb sg h1).bind fun y h2 => (f x y h2).bind fun z h3 => match z with
  | .bl true => (mc sg h3).bind fun w h4 => g y w h4
  | .bl false => .ok (.bl false) h3
  | _ => .bad) P := rfl
@[simp ↓] theorem w_par {i j ml sg h} {N : Sg → Mh → Prop} {T : D → Mh → Prop} {z : Tg N} {y : Tg T} : RS.wp (sPar i j ml sg h) N T z y = RS.wp ((ml sg h).th sg fun ds h1 => match ds with
  | [p, q] => .nx ((sg.set i (some p)).set j (some q)) h1
  | _ => .bad) N T := rfl
@[simp ↓] theorem w_par3 {i j l ml sg h} {N : Sg → Mh → Prop} {T : D → Mh → Prop} {z : Tg N} {y : Tg T} : RS.wp (sPar3 i j l ml sg h) N T z y = RS.wp ((ml sg h).th sg fun ds h1 => match ds with
  | [p, q, r] => .nx (((sg.set i (some p)).set j (some q)).set l (some r)) h1
  | _ => .bad) N T := rfl
@[simp ↓] theorem w_asg {g m sg h} {N : Sg → Mh → Prop} {T : D → Mh → Prop} {z : Tg N} {y : Tg T} : RS.wp (sAsg g m sg h) N T z y = RS.wp ((m sg h).th sg fun d h1 => match g d sg with
  | some sg' => .nx sg' h1
  | none => .bad) N T := rfl
@[simp ↓] theorem w_for {mi g body sg h} {N : Sg → Mh → Prop} {T : D → Mh → Prop} {z : Tg N} {y : Tg T} : RS.wp (sFor mi g body sg h) N T z y = RS.wp ((mi sg h).th sg fun s h1 => forL s g body s.items 0 sg h1) N T := rfl
@[simp ↓] theorem w_lc {mi g mt me vs sg h} {P} {z : Tg P} : R.wp (mLc mi g mt me vs sg h) P z = R.wp ((mi sg h).bind fun s h1 => lcL s g mt me (wipeD sg vs) h1.length s.items 0 (h1 ++ [.lst []])) P := rfl
@[simp ↓] theorem w_iter {m sg h} {P} {z : Tg P} : R.wp (mIter m sg h) P z = R.wp ((m sg h).bind dIter) P := rfl
structure InR (j : Int) : Prop where
  r : -(2 ^ 62) ≤ j ∧ j < 2 ^ 62
theorem inR_of {j : Int} (a : -1000000000 ≤ j) (b : j ≤ 1000000000) : InR j := ⟨by omega⟩
open Classical in
@[simp ↓] theorem w_range1 {m : Sg → Mh → R D} {sg : Sg} {h : Mh} {P} {z : Tg P} : R.wp (mRange1 m sg h) P z = R.wp (m sg h) fun d h1 => match d with
  | .int j => if InR j then P (srcR 0 j.toNat) h1 else False
  | _ => False := by
  rw [e_range1, wp_bind]
  cases m sg h with
  | ok d h1 =>
    rw [wp_ok, wp_ok]
    cases d with
    | int j =>
      dsimp only
      by_cases c : InR j
      · rw [if_pos c, if_pos c.r, wp_ok]
      · rw [if_neg c, if_neg (fun z => c ⟨z⟩), wp_bad]
    | _ => exact wp_bad
  | exc c fs h1 => rw [wp_exc, wp_exc]
  | bad => rw [wp_bad, wp_bad]
@[simp ↓] theorem w_zip {ml sg h} {P} {z : Tg P} : R.wp (mZip ml sg h) P z = R.wp ((ml sg h).bind dZip) P := rfl
@[simp ↓] theorem w_dnew {sg h} {P} {z : Tg P} : R.wp (mDNew sg h) P z = R.wp (.ok (.ref h.length) (h ++ [.dk []])) P := rfl
@[simp ↓] theorem w_yes {sg h} {P} {z : Tg P} : R.wp (mYes sg h) P z = R.wp (.ok true h) P := rfl
@[simp ↓] theorem w_run {n ms ds h P} {z : Tg P} : R.wp (runF n ms ds h) P z = RS.wp (ms (startD n ds) h) (fun _ h => P .non h) P := wp_end
@[simp ↓] theorem w_toRS {sg : Sg} {o : Option Mh} {N T} {z : Tg N} {y : Tg T} : RS.wp (toRS sg o) N T z y = match o with
  | some h => N sg h
  | none => False := by
  cases o with
  | some h => exact wp_nx
  | none => exact wp_sbad
/-! ### loops -/
theorem for_wp {s : Src} {g : D → Sg → Option Sg} {body : Sg → Mh → RS} {N : Sg → Mh → Prop} {T : D → Mh → Prop} (I : Nat → Sg → Mh → Prop)
    (step : ∀ j x sg h, s.items[j]? = some x → I j sg h → s.at' j x h ∧ ∃ sg1, g x sg = some sg1 ∧ (body sg1 h).wp (I (j + 1)) T)
    (fin : ∀ sg h, I s.items.length sg h → s.fin s.items.length h ∧ N sg h) :
    ∀ (k i : Nat) (sg : Sg) (h : Mh), k + i = s.items.length → I i sg h → (forL s g body (s.items.drop i) i sg h).wp N T
  | 0, i, sg, h, e, hi => by
    have e : i = s.items.length := by omega
    subst e
    rw [List.drop_length]
    unfold forL
    obtain ⟨f, n⟩ := fin sg h hi
    rw [if_pos f, wp_nx]
    exact n
  | k + 1, i, sg, h, e, hi => by
    have l : i < s.items.length := by omega
    rw [List.drop_eq_getElem_cons l]
    obtain ⟨a, sg1, e1, w⟩ := step i _ sg h (List.getElem?_eq_getElem l) hi
    unfold forL
    rw [if_pos a, e1]
    show RS.wp (match body sg1 h with
      | .nx sg' h' => forL s g body _ (i + 1) sg' h'
      | .ct sg' h' => forL s g body _ (i + 1) sg' h'
      | .bk sg' h' => .nx sg' h'
      | r => r) N T
    cases w with
    | nx sg' h' e p => rw [e]; exact for_wp I step fin k (i + 1) _ _ (by omega) p
    | rt d h' e p => rw [e]; exact .rt _ _ rfl p
theorem loop {s : Src} {g : D → Sg → Option Sg} {body : Sg → Mh → RS} {N : Sg → Mh → Prop} {T : D → Mh → Prop} {z y} {sg : Sg} {h : Mh} {items : List D} (I : Nat → Sg → Mh → Prop) (h0 : I 0 sg h)
    (step : ∀ j x sg h, items[j]? = some x → I j sg h → s.at' j x h ∧ ∃ sg1, g x sg = some sg1 ∧ (body sg1 h).wp (I (j + 1)) T)
    (fin : ∀ sg h, I items.length sg h → s.fin items.length h ∧ N sg h) (hi : items = s.items := by simp) : (forL s g body items 0 sg h).wp N T z y := by
  subst hi
  exact for_wp I step fin s.items.length 0 sg h rfl h0
theorem lc_wp {s : Src} {g : D → Sg → Option Sg} {mt : Sg → Mh → R Bool} {me : Sg → Mh → R D} {sg : Sg} {n : Nat} {P : D → Mh → Prop} (I : Nat → List D → Mh → Prop)
    (step : ∀ j x acc h, s.items[j]? = some x → I j acc h → h[n]? = some (.lst acc) → s.at' j x h ∧ ∃ sg1, g x sg = some sg1 ∧ (mt sg1 h).wp fun b h1 => if b = true then (me sg1 h1).wp fun y h2 => h2[n]? = some (.lst acc) ∧ acc.length < sizeLine ∧ I (j + 1) (acc ++ [y]) (h2.set n (.lst (acc ++ [y]))) else h1[n]? = some (.lst acc) ∧ I (j + 1) acc h1)
    (fin : ∀ acc h, I s.items.length acc h → h[n]? = some (.lst acc) → s.fin s.items.length h ∧ P (.ref n) h) :
    ∀ (k i : Nat) (acc : List D) (h : Mh), k + i = s.items.length → I i acc h → h[n]? = some (.lst acc) → (lcL s g mt me sg n (s.items.drop i) i h).wp P
  | 0, i, acc, h, e, hi, hn => by
    have e : i = s.items.length := by omega
    subst e
    rw [List.drop_length]
    unfold lcL
    obtain ⟨f, p⟩ := fin acc h hi hn
    rw [if_pos f, wp_ok]
    exact p
  | k + 1, i, acc, h, e, hi, hn => by
    have l : i < s.items.length := by omega
    rw [List.drop_eq_getElem_cons l]
    obtain ⟨a, sg1, e1, w⟩ := step i _ acc h (List.getElem?_eq_getElem l) hi hn
    unfold lcL
    rw [if_pos a, e1]
    show R.wp ((mt sg1 h).nox.bind _) P
    rw [wp_bind, wp_nox]
    refine w.mono fun b h1 w1 => ?_
    cases b with
    | false =>
      rw [if_neg (by simp)] at w1 ⊢
      exact lc_wp I step fin k (i + 1) acc h1 (by omega) w1.2 w1.1
    | true =>
      rw [if_pos rfl] at w1 ⊢
      rw [wp_bind, wp_nox]
      refine w1.mono fun y h2 ⟨q1, q2, q3⟩ => ?_
      simp only [q1]
      rw [if_pos q2]
      have l2 : n < h2.length := (List.getElem?_eq_some_iff.mp q1).1
      exact lc_wp I step fin k (i + 1) _ _ (by omega) q3 (List.getElem?_set_self l2)
/-! ### frames -/
structure Ex (h h' : Mh) : Prop where
  len : h.length ≤ h'.length
  old : ∀ n, n < h.length → h'[n]? = h[n]?
theorem Ex.rfl {h : Mh} : Ex h h := ⟨Nat.le_refl _, fun _ _ => by rfl⟩
theorem Ex.trans {h h' h'' : Mh} (a : Ex h h') (b : Ex h' h'') : Ex h h'' := ⟨Nat.le_trans a.len b.len, fun n l => (b.old n (Nat.lt_of_lt_of_le l a.len)).trans (a.old n l)⟩
theorem lt_of {h : Mh} {n : Nat} {o : MO} (e : h[n]? = some o) : n < h.length := (List.getElem?_eq_some_iff.mp e).1
theorem Ex.get {h h' : Mh} (a : Ex h h') {n : Nat} {o : MO} (e : h[n]? = some o) : h'[n]? = some o := (a.old n (lt_of e)).trans e
theorem Ex.app {h t : Mh} : Ex h (h ++ t) := ⟨by simp, fun n l => List.getElem?_append_left l⟩
theorem Ex.put {h h' : Mh} {n : Nat} {o : MO} (a : Ex h h') (l : h.length ≤ n) : Ex h (h'.set n o) := ⟨by simpa using a.len, fun m lm => (List.getElem?_set_ne (by omega)).trans (a.old m lm)⟩
structure Gr (b : Nat) (h h' : Mh) : Prop where
  len : h.length ≤ h'.length
  old : ∀ n, n < h.length → n ≠ b → h'[n]? = h[n]?
theorem Gr.rfl {b : Nat} {h : Mh} : Gr b h h := ⟨Nat.le_refl _, fun _ _ _ => by rfl⟩
theorem Gr.trans {b : Nat} {h h' h'' : Mh} (a : Gr b h h') (c : Gr b h' h'') : Gr b h h'' := ⟨Nat.le_trans a.len c.len, fun n l z => (c.old n (Nat.lt_of_lt_of_le l a.len) z).trans (a.old n l z)⟩
theorem Ex.gr {b : Nat} {h h' : Mh} (a : Ex h h') : Gr b h h' := ⟨a.len, fun n l _ => a.old n l⟩
theorem Gr.get {b : Nat} {h h' : Mh} (a : Gr b h h') {n : Nat} {o : MO} (z : n ≠ b) (e : h[n]? = some o) : h'[n]? = some o := (a.old n (lt_of e) z).trans e
theorem Gr.app {b : Nat} {h t : Mh} : Gr b h (h ++ t) := Ex.app.gr
theorem Gr.put {b : Nat} {h h' : Mh} {n : Nat} {o : MO} (a : Gr b h h') (l : h.length ≤ n ∨ n = b) : Gr b h (h'.set n o) := ⟨by simpa using a.len, fun m lm z => (List.getElem?_set_ne (by omega)).trans (a.old m lm z)⟩
theorem at_end {h : Mh} {o : MO} : (h ++ [o])[h.length]? = some o := by simp
/-- a comprehension that changes nothing else -/
theorem lc_pure {s : Src} {g : D → Sg → Option Sg} {mt : Sg → Mh → R Bool} {me : Sg → Mh → R D} {sg : Sg} {h : Mh} (p : D → Bool) (F : D → D) {items : List D} (hl : items.length ≤ sizeLine)
    (hx : ∀ j x acc, items[j]? = some x → s.at' j x (h ++ [.lst acc]) ∧ ∃ sg1, g x sg = some sg1 ∧ mt sg1 (h ++ [.lst acc]) = .ok (p x) (h ++ [.lst acc]) ∧ (p x = true → me sg1 (h ++ [.lst acc]) = .ok (F x) (h ++ [.lst acc])))
    (fin : ∀ acc, s.fin items.length (h ++ [.lst acc])) (hi : items = s.items := by simp) : lcL s g mt me sg h.length items 0 (h ++ [.lst []]) = .ok (.ref h.length) (h ++ [.lst ((items.filter p).map F)]) := by
  subst hi
  have key : (lcL s g mt me sg h.length (s.items.drop 0) 0 (h ++ [.lst []])).wp fun d h' => d = .ref h.length ∧ h' = h ++ [.lst ((s.items.filter p).map F)] := by
    refine lc_wp (fun j acc h' => acc = ((s.items.take j).filter p).map F ∧ h' = h ++ [.lst acc]) (fun j x acc h' e ⟨ea, eh⟩ hn => ?_) (fun acc h' ⟨ea, eh⟩ hn => ?_) s.items.length 0 [] _ (by simp) (by simp) at_end
    · subst eh
      obtain ⟨a, sg1, e1, e2, e3⟩ := hx j x acc e
      have lj : j < s.items.length := (List.getElem?_eq_some_iff.mp e).1
      have tk : s.items.take (j + 1) = s.items.take j ++ [x] := by rw [List.take_add_one, e]; rfl
      refine ⟨a, sg1, e1, wp_of e2 ?_⟩
      cases hp : p x with
      | false => rw [if_neg (by simp)]; exact ⟨hn, by rw [tk, List.filter_append, List.map_append, ← ea]; simp [hp], by rfl⟩
      | true =>
        rw [if_pos rfl]
        refine wp_of (e3 hp) ⟨hn, ?_, ?_, ?_⟩
        · rw [ea]
          have := List.length_filter_le p (s.items.take j)
          have : (s.items.take j).length ≤ j := by simp; omega
          rw [List.length_map]; omega
        · rw [tk, List.filter_append, List.map_append, ← ea]; simp [hp]
        · rw [List.set_append_right _ _ (Nat.le_refl _)]; simp
    · exact ⟨by rw [eh]; exact fin acc, by rfl, by rw [eh, ea, List.take_length]⟩
  obtain ⟨d, h', e, rfl, rfl⟩ := key.out
  exact e
theorem lc_map {s : Src} {g : D → Sg → Option Sg} {me : Sg → Mh → R D} {sg : Sg} {h : Mh} (F : D → D) {items : List D} (hl : items.length ≤ sizeLine)
    (hx : ∀ j x acc, items[j]? = some x → s.at' j x (h ++ [.lst acc]) ∧ ∃ sg1, g x sg = some sg1 ∧ me sg1 (h ++ [.lst acc]) = .ok (F x) (h ++ [.lst acc]))
    (fin : ∀ acc, s.fin items.length (h ++ [.lst acc])) (hi : items = s.items := by simp) : lcL s g mYes me sg h.length items 0 (h ++ [.lst []]) = .ok (.ref h.length) (h ++ [.lst (items.map F)]) := by
  have := lc_pure (mt := mYes) (fun _ => true) F hl (fun j x acc e => ⟨(hx j x acc e).1, (hx j x acc e).2.choose, (hx j x acc e).2.choose_spec.1, by rfl, fun _ => (hx j x acc e).2.choose_spec.2⟩) fin hi
  rw [List.filter_eq_self.mpr (fun _ _ => by rfl)] at this
  exact this
/-! ### arithmetic under its conditions -/
structure ModC (y : Int) : Prop where
  r : 0 < y
structure FdC (y : Int) : Prop where
  r : 0 < y ∧ y < 1073741824
structure MulC (x y : Int) : Prop where
  r : (-18446744073709551616 < y ∧ y < 18446744073709551616) ∨ (-18446744073709551616 < x ∧ x < 18446744073709551616)
structure PowC (x y : Int) : Prop where
  r : 0 ≤ y ∧ y ≤ 1000000 ∧ x.natAbs < 18446744073709551616
@[simp] theorem modC {y : Int} (h : 0 < y) : ModC y := ⟨h⟩
@[simp] theorem fdC {y : Int} (h : 0 < y) (h' : y < 1073741824) : FdC y := ⟨h, h'⟩
@[simp] theorem mulC_r {x y : Int} (h : -18446744073709551616 < y) (h' : y < 18446744073709551616) : MulC x y := ⟨.inl ⟨h, h'⟩⟩
@[simp] theorem mulC_l {x y : Int} (h : -18446744073709551616 < x) (h' : x < 18446744073709551616) : MulC x y := ⟨.inr ⟨h, h'⟩⟩
@[simp] theorem powC {x y : Int} (h : 0 ≤ y) (h' : y ≤ 1000000) (h'' : x.natAbs < 18446744073709551616) : PowC x y := ⟨h, h', h''⟩
open Classical in
@[simp] theorem mod_if {x y h} : dMod (.int x) (.int y) h = if ModC y then .ok (.int (x % y)) h else .bad := by
  by_cases c : ModC y
  · rw [mod_ii c.r, if_pos c]
  · rw [if_neg c]; exact if_neg (by simpa using fun z => c ⟨z⟩)
open Classical in
@[simp] theorem fdiv_if {x y h} : dFdiv (.int x) (.int y) h = if FdC y then .ok (.int (x / y)) h else .bad := by
  by_cases c : FdC y
  · rw [fdiv_ii c.r.1 c.r.2, if_pos c]
  · rw [if_neg c]; exact if_neg (fun z => c ⟨of_decide_eq_true z⟩)
open Classical in
@[simp] theorem mul_if {x y h} : dMul (.int x) (.int y) h = if MulC x y then .ok (.int (x * y)) h else .bad := by
  by_cases c : MulC x y
  · rw [if_pos c]
    rcases c.r with c | c
    · exact mul_ii (cMul_r c.1 c.2)
    · exact mul_ii (cMul_l c.1 c.2)
  · rw [if_neg c]; exact if_neg (fun z => c ⟨by simp only [cMul, decide_eq_true_eq] at z; omega⟩)
open Classical in
@[simp] theorem pow_if {x y h} : dPow (.int x) (.int y) h = if PowC x y then .ok (.int (x ^ y.toNat)) h else .bad := by
  by_cases c : PowC x y
  · rw [if_pos c]; exact pow_ii c.r.1 c.r.2.1 c.r.2.2
  · rw [if_neg c]; exact if_neg (fun z => c ⟨by simp only [cPow, decide_eq_true_eq] at z; omega⟩)
open Classical in
@[simp] theorem shl_if {x y h} : dShl (.int x) (.int y) h = if PowC x y then .ok (.int (x * 2 ^ y.toNat)) h else .bad := by
  by_cases c : PowC x y
  · rw [if_pos c]; exact shl_ii c.r.1 c.r.2.1 c.r.2.2
  · rw [if_neg c]; exact if_neg (fun z => c ⟨by simp only [cPow, decide_eq_true_eq] at z; omega⟩)
/-! ### lookups -/
@[simp] theorem l_ix {n : Nat} {i : Int} {h : Mh} : dIx (.ref n) (.int i) h = match h[n]? with
    | some (.lst ds) => match atI ds i with
      | some d => .ok d h
      | none => .bad
    | some (.fls ds) => match atI ds i with
      | some d => .ok d h
      | none => .bad
    | _ => .bad := rfl
@[simp] theorem l_len {n : Nat} {h : Mh} : dLen [.ref n] h = match h[n]? with
    | some (.lst xs) => .ok (.int (xs.length : Nat)) h
    | some (.fls xs) => .ok (.int (xs.length : Nat)) h
    | some (.dk kvs) => .ok (.int (kvs.length : Nat)) h
    | _ => .bad := rfl
@[simp] theorem l_get {n : Nat} {k : D} {h : Mh} : dGet (.ref n) k h = match h[n]?, keyD k with
    | some (.dk kvs), some key => match valD kvs key with
      | some d => .ok d h
      | none => .bad
    | _, _ => .bad := rfl
@[simp] theorem l_putL {n : Nat} {z : Int} {v : D} {h : Mh} : dPutL (.ref n) (.int z) v h = match h[n]? with
    | some (.lst xs) => (ixN xs.length z).map fun j => h.set n (.lst (xs.set j v))
    | _ => none := rfl
open Classical in
@[simp] theorem l_putD {n : Nat} {k v : D} {h : Mh} : dPutD (.ref n) k v h = match keyD k with
    | some key => match h[n]? with
      | some (.dk kvs) => if LenC kvs.length then some (h.set n (.dk (putD kvs key v))) else none
      | _ => none
    | none => none := by
  unfold dPutD
  cases keyD k with
  | none => rfl
  | some key =>
    dsimp only
    cases h[n]? with
    | none => rfl
    | some o =>
      cases o with
      | dk kvs =>
        dsimp only
        by_cases c : LenC kvs.length
        · rw [if_pos c, if_pos c.r]
        · rw [if_neg c, if_neg (fun z => c ⟨z⟩)]
      | _ => rfl
@[simp] theorem l_iter {n : Nat} {h : Mh} : dIter (.ref n) h = match h[n]? with
    | some (.lst ds) => .ok (srcL n ds) h
    | some (.fls ds) => .ok (srcL n ds) h
    | _ => .bad := rfl
open Classical in
@[simp] theorem l_app {n : Nat} {y : D} {h : Mh} : dAppend (.ref n) [y] h = match h[n]? with
    | some (.lst xs) => if LenC xs.length then .ok .non (h.set n (.lst (xs ++ [y]))) else .bad
    | _ => .bad := by
  unfold dAppend
  dsimp only
  cases h[n]? with
  | none => rfl
  | some o =>
    cases o with
    | lst xs =>
      dsimp only
      by_cases c : LenC xs.length
      · rw [if_pos c, if_pos c.r]
      · rw [if_neg c, if_neg (fun z => c ⟨z⟩)]
    | _ => rfl
open Classical in
@[simp] theorem l_lenS {x : Str} {h : Mh} : dLen [.str x] h = if LenE x.length then .ok (.int (x.length : Nat)) h else .bad := by
  by_cases c : LenE x.length
  · rw [if_pos c]; exact if_pos c.r
  · rw [if_neg c]; exact if_neg fun z => c ⟨z⟩
open Classical in
@[simp] theorem l_ixS {x : Str} {i : Int} {h : Mh} : dIx (.str x) (.int i) h = if LenE x.length then match atI x.cps.toList i with
    | some c => .ok (.str ⟨#[c]⟩) h
    | none => .bad else .bad := by
  by_cases c : LenE x.length
  · rw [if_pos c]; exact if_pos c.r
  · rw [if_neg c]; exact if_neg fun z => c ⟨z⟩
open Classical in
@[simp] theorem l_slS {x : Str} {lo hi : Option Int} {h : Mh} : dSl (.str x) lo hi h = if LenE x.length then .ok (.str (cutS x lo hi)) h else .bad := by
  by_cases c : LenE x.length
  · rw [if_pos c]; exact if_pos c.r
  · rw [if_neg c]; exact if_neg fun z => c ⟨z⟩
@[simp] theorem l_isTy {T : String} {n : Nat} {h : Mh} : isTy T (.ref n) h = match h[n]? with
    | some (.lst _) => T == "list"
    | some (.fls _) => T == "list"
    | some (.dk _) => T == "dict"
    | _ => false := rfl
@[simp] theorem key_s {x : Str} : keyD (.str x) = some (.inr x) := rfl
@[simp] theorem l_sl {n : Nat} {lo hi : Option Int} {h : Mh} : dSl (.ref n) lo hi h = match h[n]? with
    | some (.lst ds) => .ok (.ref h.length) (h ++ [.lst (cutD ds lo hi)])
    | some (.fls ds) => .ok (.ref h.length) (h ++ [.lst (cutD ds lo hi)])
    | _ => .bad := rfl
@[simp] theorem l_zip {n m : Nat} {h : Mh} : dZip [.ref n, .ref m] h = match lstOf h n, lstOf h m with
    | some xs, some ys => .ok (srcZ n m xs ys) h
    | _, _ => .bad := rfl
@[simp] theorem l_lstOf {n : Nat} {h : Mh} : lstOf h n = match h[n]? with
    | some (.lst ds) => some ds
    | some (.fls ds) => some ds
    | _ => none := rfl
@[simp] theorem l_list {n : Nat} {h : Mh} : dList [.ref n] h = match lstOf h n with
    | some xs => .ok (.ref h.length) (h ++ [.lst xs])
    | none => .bad := rfl
@[simp] theorem srcL_items {n ds} : (srcL n ds).items = ds := rfl
@[simp] theorem srcT_items {ds} : (srcT ds).items = ds := rfl
@[simp] theorem srcT_at {ds i x h} : (srcT ds).at' i x h = True := rfl
@[simp] theorem srcT_fin {ds i h} : (srcT ds).fin i h = True := rfl
@[simp] theorem srcR_items {lo n} : (srcR lo n).items = (List.range n).map fun k : Nat => .int (lo + (k : Int)) := rfl
@[simp] theorem srcR_at {lo n i x h} : (srcR lo n).at' i x h = True := rfl
@[simp] theorem srcR_fin {lo n i h} : (srcR lo n).fin i h = True := rfl
@[simp] theorem g_nm {i d sg} : gNm i d sg = some (sg.set i (some d)) := rfl
@[simp] theorem g_two {i j : Nat} {a b : D} {sg : Sg} : gTp 2 (gsCons (gNm i) (gsCons (gNm j) gsNil)) (.tup [a, b]) sg = some ((sg.set i (some a)).set j (some b)) := rfl
@[simp] theorem g_three {i j k : Nat} {a b c : D} {sg : Sg} : gTp 3 (gsCons (gNm i) (gsCons (gNm j) (gsCons (gNm k) gsNil))) (.tup [a, b, c]) sg = some (((sg.set i (some a)).set j (some b)).set k (some c)) := rfl
theorem srcL_at {n ds i x h} (e : h[n]? = some (.lst ds)) (q : ds[i]? = some x) : (srcL n ds).at' i x h := ⟨ds, .inl e, q⟩
theorem srcL_fin {n ds h} (e : h[n]? = some (.lst ds)) : (srcL n ds).fin ds.length h := ⟨ds, .inl e, Nat.le_refl _⟩
end Mo

namespace K03
open PySem PySem.Spec PyProof.Rows L2 Mo
def topS (i : Nat) : Stmt := PySem.Challenge.pw_needleblind_k03_whole_worths_of_expressi.main.body.getD i (.Pass ⟨0, 0, 0, 0⟩)
def c_PREFIXES : D := .tup [(.str (Str.ofString "~")), (.str (Str.ofString "half")), (.str (Str.ofString "twice"))]
abbrev s__law_draw : Stmt := topS 7
theorem sc__law_draw : FnScope ["bag", "size", "cell", "digit", "seed"] ["bag", "size"] (defScope s__law_draw) := ⟨rfl, rfl, rfl, by decide +kernel, rfl, by decide +kernel, by decide +kernel⟩
noncomputable def m__law_draw : Sg → Mh → RS := (sSeq (sPut dPutL (mVar 0) (mLit (.int 4)) (m2 dAdd (m2 dIx (mVar 0) (mLit (.int 4))) (mLit (.int 1))))
    (sSeq (sIf (mAndT (mTest (m2 (dE false) (m2 dIx (mVar 0) (mLit (.int 2))) (mLit (.int 0)))) (mTest (m2 dLt (m2 dIx (mVar 0) (mLit (.int 1))) (mBi dLen (mCons (m2 dIx (mVar 0) (mLit (.int 0))) mNil))))) (sSeq (sSet 2 (m2 dIx (m2 dIx (mVar 0) (mLit (.int 0))) (m2 dIx (mVar 0) (mLit (.int 1)))))
    (sSeq (sPut dPutL (mVar 0) (mLit (.int 1)) (m2 dAdd (m2 dIx (mVar 0) (mLit (.int 1))) (mLit (.int 1))))
    (sIf (mTest (m2 dGe (mVar 2) (m2 dPow (mLit (.int 10)) (mLit (.int 18))))) (sPut dPutL (mVar 0) (mLit (.int 2)) (mVar 2)) (sPut dPutL (mVar 0) (mLit (.int 3)) (m2 dMod (mBi dInt (mCons (m2 dAdd (m2 dAdd (m2 dMul (m2 dIx (mVar 0) (mLit (.int 3))) (mLit (.int 39451))) (m2 dMul (m2 dMod (mBi dInt (mCons (mVar 2) mNil)) (mLit (.int 2147483543))) (mLit (.int 10009)))) (mLit (.int 31))) mNil)) (mLit (.int 2147483629))))))) sNext)
    (sSeq (sIf (mTest (m2 dGt (m2 dIx (mVar 0) (mLit (.int 2))) (mLit (.int 0)))) (sSeq (sSet 3 (m2 dMod (mBi dInt (mCons (m2 dIx (mVar 0) (mLit (.int 2))) mNil)) (mVar 1)))
    (sSeq (sPut dPutL (mVar 0) (mLit (.int 2)) (m2 dFdiv (m2 dIx (mVar 0) (mLit (.int 2))) (mVar 1)))
    (sRet (mVar 3)))) sNext)
    (sSeq (sSet 4 (mBi dInt (mCons (m2 dIx (mVar 0) (mLit (.int 3))) mNil)))
    (sSeq (sPut dPutL (mVar 0) (mLit (.int 3)) (m2 dMod (mBi dInt (mCons (m2 dAdd (m2 dAdd (m2 dAdd (m2 dPow (mVar 4) (mLit (.int 3))) (m2 dMul (mVar 4) (mLit (.int 28843)))) (m2 dMul (m2 dIx (mVar 0) (mLit (.int 4))) (mLit (.int 1299689)))) (mLit (.int 60013))) mNil)) (mLit (.int 2147483629))))
    (sRet (m2 dMod (mBi dInt (mCons (m2 dAdd (m2 dFdiv (m2 dIx (mVar 0) (mLit (.int 3))) (mLit (.int 71))) (m2 dMul (m2 dMod (mBi dInt (mCons (m2 dIx (mVar 0) (mLit (.int 3))) mNil)) (mLit (.int 7907))) (mLit (.int 61)))) mNil)) (mVar 1))))))))
noncomputable def f__law_draw : FM := runF 5 m__law_draw
abbrev s__law_like : Stmt := topS 9
theorem sc__law_like : FnScope ["found", "due", "key", "one", "two"] ["found", "due"] (defScope s__law_like) := ⟨rfl, rfl, rfl, by decide +kernel, rfl, by decide +kernel, by decide +kernel⟩
noncomputable def m__law_like (rec : FM) : Sg → Mh → RS := (sSeq (sIf (mOrT (mTest (m2 dIs (mVar 1) (mLit .non))) (mTest (m2 dIs (mVar 0) (mLit .non)))) (sRet (mAnd (m2 dIs (mVar 1) (mLit .non)) (m2 dIs (mVar 0) (mLit .non)))) sNext)
    (sSeq (sIf (mOrT (mTru (mBi dIsi1 (mCons (mVar 1) (mCons (mLit (.ty "dict")) mNil)))) (mTru (mBi dIsi1 (mCons (mVar 0) (mCons (mLit (.ty "dict")) mNil))))) (sSeq (sIf (mOrT (mNotT (mTru (mBi dIsi1 (mCons (mVar 1) (mCons (mLit (.ty "dict")) mNil))))) (mOrT (mNotT (mTru (mBi dIsi1 (mCons (mVar 0) (mCons (mLit (.ty "dict")) mNil))))) (mTest (m2 (dE true) (mBi dLen (mCons (mVar 0) mNil)) (mBi dLen (mCons (mVar 1) mNil)))))) (sRet (mLit (.bl false))) sNext)
    sBad) sNext)
    (sSeq (sIf (mTru (m1 (dIsi2 "list" "tuple") (mVar 1))) (sSeq (sIf (mOrT (mTest (m2 (dE true) (mBi dIsi1 (mCons (mVar 0) (mCons (mLit (.ty "list")) mNil))) (mBi dIsi1 (mCons (mVar 1) (mCons (mLit (.ty "list")) mNil))))) (mTest (m2 (dE true) (mBi dIsi1 (mCons (mVar 0) (mCons (mLit (.ty "tuple")) mNil))) (mBi dIsi1 (mCons (mVar 1) (mCons (mLit (.ty "tuple")) mNil)))))) (sRet (mLit (.bl false))) sNext)
    (sRet (mAnd (m2 (dE false) (mBi dLen (mCons (mVar 0) mNil)) (mBi dLen (mCons (mVar 1) mNil))) (mBi (dAll fun bs => bs.all id) (mCons (mLc (mZip (mCons (mVar 0) (mCons (mVar 1) mNil))) (gTp 2 (gsCons (gNm 3) (gsCons (gNm 4) gsNil))) mYes (mCall 2 rec (mCons (mVar 3) (mCons (mVar 4) mNil)) []) [3, 4]) mNil))))) sNext)
    (sSeq (sIf (mOrT (mTru (m1 (dIsi2 "list" "tuple") (mVar 0))) (mTest (m2 (dE true) (mBi dIsi1 (mCons (mVar 0) (mCons (mLit (.ty "bool")) mNil))) (mBi dIsi1 (mCons (mVar 1) (mCons (mLit (.ty "bool")) mNil)))))) (sRet (mLit (.bl false))) sNext)
    (sSeq (sIf (mOrT (mTest (m2 (dE true) (mBi dIsi1 (mCons (mVar 0) (mCons (mLit (.ty "str")) mNil))) (mBi dIsi1 (mCons (mVar 1) (mCons (mLit (.ty "str")) mNil))))) (mTest (m2 (dE true) (mBi dIsi1 (mCons (mVar 0) (mCons (mLit (.ty "int")) mNil))) (mBi dIsi1 (mCons (mVar 1) (mCons (mLit (.ty "int")) mNil)))))) (sRet (mLit (.bl false))) sNext)
    (sRet (m2 (dE false) (mVar 0) (mVar 1))))))))
noncomputable def f__law_like : Nat → FM
  | 0 => fun _ _ => .bad
  | k + 1 => runF 5 (m__law_like (f__law_like k))
abbrev s_prefix_worth : Stmt := topS 3
theorem sc_prefix_worth : FnScope ["prefix", "number", "size"] ["prefix", "number", "size"] (defScope s_prefix_worth) := ⟨rfl, rfl, rfl, by decide +kernel, rfl, by decide +kernel, by decide +kernel⟩
noncomputable def m_prefix_worth : Sg → Mh → RS := (sSeq (sIf (mTest (m2 (dE false) (mVar 0) (mLit (.str (Str.ofString "half"))))) (sRet (m2 dFdiv (mVar 1) (mLit (.int 2)))) sNext)
    (sSeq (sIf (mTest (m2 (dE false) (mVar 0) (mLit (.str (Str.ofString "twice"))))) (sRet (m2 dMod (m2 dMul (mVar 1) (mLit (.int 2))) (mVar 2))) sNext)
    (sRet (m2 dSub (m2 dSub (mVar 2) (mLit (.int 1))) (mVar 1)))))
noncomputable def f_prefix_worth : FM := runF 3 m_prefix_worth
abbrev s_sign_worth : Stmt := topS 4
theorem sc_sign_worth : FnScope ["sign", "left", "right", "size"] ["sign", "left", "right", "size"] (defScope s_sign_worth) := ⟨rfl, rfl, rfl, by decide +kernel, rfl, by decide +kernel, by decide +kernel⟩
noncomputable def m_sign_worth : Sg → Mh → RS := (sSeq (sIf (mTest (m2 (dE false) (mVar 0) (mLit (.str (Str.ofString "+"))))) (sRet (m2 dMod (m2 dAdd (mVar 1) (mVar 2)) (mVar 3))) sNext)
    (sSeq (sIf (mTest (m2 (dE false) (mVar 0) (mLit (.str (Str.ofString "-"))))) (sRet (m2 dMod (m2 dSub (mVar 1) (mVar 2)) (mVar 3))) sNext)
    (sSeq (sIf (mTest (m2 (dE false) (mVar 0) (mLit (.str (Str.ofString "&"))))) (sRet (m2 dBand (mVar 1) (mVar 2))) sNext)
    (sSeq (sIf (mTest (m2 (dE false) (mVar 0) (mLit (.str (Str.ofString "|"))))) (sRet (m2 dBor (mVar 1) (mVar 2))) sNext)
    (sSeq (sIf (mTest (m2 (dE false) (mVar 0) (mLit (.str (Str.ofString "^"))))) (sRet (m2 dBxor (mVar 1) (mVar 2))) sNext)
    (sSeq (sIf (mTest (m2 (dE false) (mVar 0) (mLit (.str (Str.ofString "=="))))) (sRet (mIte (mTest (m2 (dE false) (mVar 1) (mVar 2))) (mLit (.int 1)) (mLit (.int 0)))) sNext)
    (sRet (mIte (mTest (m2 dLt (mVar 1) (mVar 2))) (mLit (.int 1)) (mLit (.int 0))))))))))
noncomputable def f_sign_worth : FM := runF 4 m_sign_worth
abbrev s_worth : Stmt := topS 2
theorem sc_worth : FnScope ["tree", "width", "words", "rows", "kind", "size", "row", "left", "right"] ["tree", "width", "words", "rows"] (defScope s_worth) := ⟨rfl, rfl, rfl, by decide +kernel, rfl, by decide +kernel, by decide +kernel⟩
noncomputable def m_worth (rec : FM) : Sg → Mh → RS := (sSeq (sSet 4 (m2 dIx (mVar 0) (mLit (.int 0))))
    (sSeq (sSet 5 (m2 dShl (mLit (.int 1)) (mVar 1)))
    (sSeq (sIf (mTest (m2 (dE false) (mVar 4) (mLit (.str (Str.ofString "number"))))) (sRet (m2 dMod (m2 dIx (mVar 0) (mLit (.int 1))) (mVar 5))) sNext)
    (sSeq (sIf (mTest (m2 (dE false) (mVar 4) (mLit (.str (Str.ofString "word"))))) (sRet (m2 dMod (m2 dGet (mVar 2) (m2 dIx (mVar 0) (mLit (.int 1)))) (mVar 5))) sNext)
    (sSeq (sIf (mTest (m2 (dE false) (mVar 4) (mLit (.str (Str.ofString "at"))))) (sSeq (sSet 6 (m2 dGet (mVar 3) (m2 dIx (mVar 0) (mLit (.int 1)))))
    (sRet (m2 dMod (m2 dIx (mVar 6) (m2 dMod (mCall 4 rec (mCons (m2 dIx (mVar 0) (mLit (.int 2))) (mCons (mVar 1) (mCons (mVar 2) (mCons (mVar 3) mNil)))) []) (mBi dLen (mCons (mVar 6) mNil)))) (mVar 5)))) sNext)
    (sSeq (sIf (mTest (m2 (dIn false) (mVar 4) (mLit c_PREFIXES))) (sRet (mCall 3 f_prefix_worth (mCons (mVar 4) (mCons (mCall 4 rec (mCons (m2 dIx (mVar 0) (mLit (.int 1))) (mCons (mVar 1) (mCons (mVar 2) (mCons (mVar 3) mNil)))) []) (mCons (mVar 5) mNil))) [])) sNext)
    (sSeq (sSet 7 (mCall 4 rec (mCons (m2 dIx (mVar 0) (mLit (.int 1))) (mCons (mVar 1) (mCons (mVar 2) (mCons (mVar 3) mNil)))) []))
    (sSeq (sSet 8 (mCall 4 rec (mCons (m2 dIx (mVar 0) (mLit (.int 2))) (mCons (mVar 1) (mCons (mVar 2) (mCons (mVar 3) mNil)))) []))
    (sRet (mCall 4 f_sign_worth (mCons (mVar 4) (mCons (mVar 7) (mCons (mVar 8) (mCons (mVar 5) mNil)))) []))))))))))
noncomputable def f_worth : Nat → FM
  | 0 => fun _ _ => .bad
  | k + 1 => runF 9 (m_worth (f_worth k))
abbrev s__law_any_lengths_so : Stmt := topS 24
theorem sc__law_any_lengths_so : FnScope ["bag", "wide", "size", "top", "row", "k", "found", "j"] ["bag"] (defScope s__law_any_lengths_so) := ⟨rfl, rfl, rfl, by decide +kernel, rfl, by decide +kernel, by decide +kernel⟩
noncomputable def m__law_any_lengths_so : Sg → Mh → RS := (sSeq (sPar 1 2 (mCons (m2 dAdd (mLit (.int 1)) (mCall 2 f__law_draw (mCons (mVar 0) (mCons (mLit (.int 6)) mNil)) [])) (mCons (m2 dAdd (mLit (.int 1)) (mCall 2 f__law_draw (mCons (mVar 0) (mCons (mLit (.int 9)) mNil)) [])) mNil)))
    (sSeq (sSet 3 (m2 dShl (mLit (.int 1)) (mVar 1)))
    (sSeq (sPar 4 5 (mCons (mLc (mRange1 (mVar 2)) (gNm 7) mYes (mCall 2 f__law_draw (mCons (mVar 0) (mCons (mVar 3) mNil)) []) [7]) (mCons (mCall 2 f__law_draw (mCons (mVar 0) (mCons (mVar 3) mNil)) []) mNil)))
    (sSeq (sSet 6 (mCall 4 (f_worth 64) (mCons (mTup (mCons (mLit (.str (Str.ofString "at"))) (mCons (mLit (.str (Str.ofString "m"))) (mCons (mTup (mCons (mLit (.str (Str.ofString "word"))) (mCons (mLit (.str (Str.ofString "w"))) mNil))) mNil)))) (mCons (mVar 1) (mCons (mDisp (mPCons (mLit (.str (Str.ofString "w"))) (mVar 5) mPNil)) (mCons (mDisp (mPCons (mLit (.str (Str.ofString "m"))) (mBi dList (mCons (mVar 4) mNil)) mPNil)) mNil)))) []))
    (sRet (mCall 2 (f__law_like 8) (mCons (mVar 6) (mCons (m2 dIx (mVar 4) (m2 dMod (mBi dInt (mCons (mVar 5) mNil)) (mVar 2))) mNil)) []))))))
noncomputable def f__law_any_lengths_so : FM := runF 8 m__law_any_lengths_so
abbrev s__law_asked : Stmt := topS 22
theorem sc__law_asked : FnScope ["knot", "wide", "here", "lots", "names", "turn", "words_in", "rows_in", "first", "second", "name", "found", "same"] ["knot", "wide", "here", "lots", "names", "turn"] (defScope s__law_asked) := ⟨rfl, rfl, rfl, by decide +kernel, rfl, by decide +kernel, by decide +kernel⟩
noncomputable def m__law_asked : Sg → Mh → RS := (sSeq (sAsg (gTp 2 (gsCons (gNm 6) (gsCons (gNm 7) gsNil))) (mTup (mCons mDNew (mCons mDNew mNil))))
    (sSeq (sIf (mTest (m2 (dE false) (mVar 5) (mLit (.int 0)))) (sSeq (sPut dPutD (mVar 6) (m2 dIx (mVar 4) (mLit (.int 5))) (mLit (.int 1)))
    (sPut dPutD (mVar 7) (m2 dIx (mVar 4) (mLit (.int 6))) (mLst (mCons (mLit (.int 1)) (mCons (mLit (.int 0)) mNil))))) sNext)
    (sSeq (sPar 8 9 (mCons (mBi dSortedD (mCons (mVar 2) mNil)) (mCons (mBi dSortedD (mCons (mVar 3) mNil)) mNil)))
    (sSeq (sIf (mTest (m2 (dE false) (mVar 5) (mLit (.int 1)))) (sSeq (sExpr (mMt "list" dReverse (mVar 8) mNil))
    (sExpr (mMt "list" dReverse (mVar 9) mNil))) sNext)
    (sSeq (sFor (mIter (mVar 8)) (gNm 10) (sPut dPutD (mVar 6) (mVar 10) (m2 dGet (mVar 2) (mVar 10))))
    (sSeq (sFor (mIter (mVar 9)) (gNm 10) (sPut dPutD (mVar 7) (mVar 10) (mBi dList (mCons (m2 dGet (mVar 3) (mVar 10)) mNil))))
    (sSeq (sIf (mTest (m2 (dE false) (mVar 5) (mLit (.int 2)))) (sSet 11 (mCall 4 (f_worth 64) (mCons (mVar 0) (mCons (mVar 1) (mCons (mVar 6) (mCons (mVar 7) mNil)))) [])) (sSet 11 (mCall 4 (f_worth 64) (mCons (mVar 0) (mCons (mVar 1) (mCons (mVar 6) (mCons (mVar 7) mNil)))) [])))
    (sSeq (sSet 12 (m2 (dE false) (mLc (mIter (mBi dSortedD (mCons (mVar 2) mNil))) (gNm 10) mYes (m2 dGet (mVar 6) (mVar 10)) [10]) (mLc (mIter (mBi dSortedD (mCons (mVar 2) mNil))) (gNm 10) mYes (m2 dGet (mVar 2) (mVar 10)) [10])))
    (sSeq (sSet 12 (mAnd (mVar 12) (m2 (dE false) (mLc (mIter (mBi dSortedD (mCons (mVar 3) mNil))) (gNm 10) mYes (m2 dGet (mVar 7) (mVar 10)) [10]) (mLc (mIter (mBi dSortedD (mCons (mVar 3) mNil))) (gNm 10) mYes (m2 dGet (mVar 3) (mVar 10)) [10]))))
    (sRet (mIte (mAndT (mTru (mVar 12)) (mTest (m2 (dE false) (m2 dAdd (mBi dLen (mCons (mVar 6) mNil)) (mBi dLen (mCons (mVar 7) mNil))) (m2 dAdd (m2 dAdd (mBi dLen (mCons (mVar 2) mNil)) (mBi dLen (mCons (mVar 3) mNil))) (mIte (mTest (m2 (dE false) (mVar 5) (mLit (.int 0)))) (mLit (.int 2)) (mLit (.int 0))))))) (mVar 11) (m2 dSub (mLit (.int 0)) (mLit (.int 1))))))))))))))
noncomputable def f__law_asked : FM := runF 13 m__law_asked
abbrev s__law_bag : Stmt := topS 6
theorem sc__law_bag : FnScope ["script", "mix", "cell"] ["script"] (defScope s__law_bag) := ⟨rfl, rfl, rfl, by decide +kernel, rfl, by decide +kernel, by decide +kernel⟩
noncomputable def m__law_bag : Sg → Mh → RS := (sSeq (sSet 1 (mLit (.int 13972)))
    (sSeq (sFor (mIter (mSl (mVar 0) mNoP (mPart (mLit (.int 63))))) (gNm 2) (sSet 1 (m2 dMod (mBi dInt (mCons (m2 dAdd (m2 dAdd (m2 dMul (mVar 1) (mLit (.int 40013))) (m2 dMod (mBi dInt (mCons (mVar 2) mNil)) (mLit (.int 2147483587)))) (mLit (.int 23))) mNil)) (mLit (.int 2147483629)))))
    (sRet (mLst (mCons (mBi dList (mCons (mSl (mVar 0) mNoP (mPart (mLit (.int 63)))) mNil)) (mCons (mLit (.int 0)) (mCons (mLit (.int 0)) (mCons (mVar 1) (mCons (mLit (.int 0)) mNil)))))))))
noncomputable def f__law_bag : FM := runF 3 m__law_bag
abbrev s__law_bits : Stmt := topS 15
theorem sc__law_bits : FnScope ["number", "wide", "found", "k"] ["number", "wide"] (defScope s__law_bits) := ⟨rfl, rfl, rfl, by decide +kernel, rfl, by decide +kernel, by decide +kernel⟩
noncomputable def m__law_bits : Sg → Mh → RS := (sSeq (sSet 2 (mLst mNil))
    (sSeq (sFor (mRange1 (mVar 1)) (gNm 3) (sSeq (sExpr (mMt "list" dAppend (mVar 2) (mCons (m2 dSub (mVar 0) (m2 dMul (mLit (.int 2)) (m2 dFdiv (mVar 0) (mLit (.int 2))))) mNil)))
    (sSet 0 (m2 dFdiv (mVar 0) (mLit (.int 2))))))
    (sRet (mVar 2))))
noncomputable def f__law_bits : FM := runF 4 m__law_bits
abbrev s__law_sum : Stmt := topS 17
theorem sc__law_sum : FnScope ["one", "two", "carry", "found", "a", "b"] ["one", "two", "carry"] (defScope s__law_sum) := ⟨rfl, rfl, rfl, by decide +kernel, rfl, by decide +kernel, by decide +kernel⟩
noncomputable def m__law_sum : Sg → Mh → RS := (sSeq (sSet 3 (mLst mNil))
    (sSeq (sFor (mZip (mCons (mVar 0) (mCons (mVar 1) mNil))) (gTp 2 (gsCons (gNm 4) (gsCons (gNm 5) gsNil))) (sSeq (sExpr (mMt "list" dAppend (mVar 3) (mCons (m2 dBxor (m2 dBxor (mVar 4) (mVar 5)) (mVar 2)) mNil)))
    (sSet 2 (m2 dBor (m2 dBand (mVar 4) (mVar 5)) (m2 dBand (mVar 2) (m2 dBxor (mVar 4) (mVar 5)))))))
    (sRet (mLst (mCons (mVar 3) (mCons (mVar 2) mNil))))))
noncomputable def f__law_sum : FM := runF 6 m__law_sum
abbrev s__law_joined : Stmt := topS 18
theorem sc__law_joined : FnScope ["sign", "one", "two", "back", "yes", "b", "a"] ["sign", "one", "two"] (defScope s__law_joined) := ⟨rfl, rfl, rfl, by decide +kernel, rfl, by decide +kernel, by decide +kernel⟩
noncomputable def m__law_joined : Sg → Mh → RS := (sSeq (sSet 3 (mLc (mIter (mVar 2)) (gNm 5) mYes (m2 dSub (mLit (.int 1)) (mVar 5)) [5]))
    (sSeq (sIf (mTest (m2 (dIn false) (mVar 0) (mTup (mCons (mLit (.str (Str.ofString "+"))) (mCons (mLit (.str (Str.ofString "-"))) mNil))))) (sRet (mIte (mTest (m2 (dE false) (mVar 0) (mLit (.str (Str.ofString "+"))))) (m2 dIx (mCall 3 f__law_sum (mCons (mVar 1) (mCons (mVar 2) (mCons (mLit (.int 0)) mNil))) []) (mLit (.int 0))) (m2 dIx (mCall 3 f__law_sum (mCons (mVar 1) (mCons (mVar 3) (mCons (mLit (.int 1)) mNil))) []) (mLit (.int 0))))) sNext)
    (sSeq (sIf (mTest (m2 (dE false) (mVar 0) (mLit (.str (Str.ofString "&"))))) (sRet (mLc (mZip (mCons (mVar 1) (mCons (mVar 2) mNil))) (gTp 2 (gsCons (gNm 6) (gsCons (gNm 5) gsNil))) mYes (m2 dBand (mVar 6) (mVar 5)) [6, 5])) sNext)
    (sSeq (sIf (mTest (m2 (dE false) (mVar 0) (mLit (.str (Str.ofString "|"))))) (sRet (mLc (mZip (mCons (mVar 1) (mCons (mVar 2) mNil))) (gTp 2 (gsCons (gNm 6) (gsCons (gNm 5) gsNil))) mYes (mIte (mTest (m2 dGt (m2 dAdd (mVar 6) (mVar 5)) (mLit (.int 0)))) (mLit (.int 1)) (mLit (.int 0))) [6, 5])) sNext)
    (sSeq (sIf (mTest (m2 (dE false) (mVar 0) (mLit (.str (Str.ofString "^"))))) (sRet (mLc (mZip (mCons (mVar 1) (mCons (mVar 2) mNil))) (gTp 2 (gsCons (gNm 6) (gsCons (gNm 5) gsNil))) mYes (mIte (mTest (m2 (dE true) (mVar 6) (mVar 5))) (mLit (.int 1)) (mLit (.int 0))) [6, 5])) sNext)
    (sSeq (sSet 4 (mIte (mTest (m2 (dE false) (mVar 0) (mLit (.str (Str.ofString "=="))))) (m2 (dE false) (mVar 1) (mVar 2)) (m2 (dE false) (m2 dIx (mCall 3 f__law_sum (mCons (mVar 1) (mCons (mVar 3) (mCons (mLit (.int 1)) mNil))) []) (mLit (.int 1))) (mLit (.int 0)))))
    (sRet (m2 dAdd (mLst (mCons (mIte (mTru (mVar 4)) (mLit (.int 1)) (mLit (.int 0))) mNil)) (mLc (mIter (mSl (mVar 2) (mPart (mLit (.int 1))) mNoP)) (gNm 5) mYes (mLit (.int 0)) [5])))))))))
noncomputable def f__law_joined : FM := runF 7 m__law_joined
abbrev s__law_number : Stmt := topS 16
theorem sc__law_number : FnScope ["row", "found", "k"] ["row"] (defScope s__law_number) := ⟨rfl, rfl, rfl, by decide +kernel, rfl, by decide +kernel, by decide +kernel⟩
noncomputable def m__law_number : Sg → Mh → RS := (sSeq (sSet 1 (mLit (.int 0)))
    (sSeq (sFor (mRange1 (mBi dLen (mCons (mVar 0) mNil))) (gNm 2) (sSet 1 (m2 dAdd (mVar 1) (m2 dMul (m2 dIx (mVar 0) (mVar 2)) (m2 dShl (mLit (.int 1)) (mVar 2))))))
    (sRet (mVar 1))))
noncomputable def f__law_number : FM := runF 3 m__law_number
abbrev s__law_due : Stmt := topS 19
theorem sc__law_due : FnScope ["knot", "wide", "some", "lots", "head", "row", "spot", "k", "one", "b"] ["knot", "wide", "some", "lots"] (defScope s__law_due) := ⟨rfl, rfl, rfl, by decide +kernel, rfl, by decide +kernel, by decide +kernel⟩
noncomputable def m__law_due (rec : FM) : Sg → Mh → RS := (sSeq (sSet 4 (m2 dIx (mVar 0) (mLit (.int 0))))
    (sSeq (sIf (mTest (m2 (dIn false) (mVar 4) (mTup (mCons (mLit (.str (Str.ofString "number"))) (mCons (mLit (.str (Str.ofString "word"))) mNil))))) (sRet (mCall 2 f__law_bits (mCons (mIte (mTest (m2 (dE false) (mVar 4) (mLit (.str (Str.ofString "number"))))) (m2 dIx (mVar 0) (mLit (.int 1))) (m2 dGet (mVar 2) (m2 dIx (mVar 0) (mLit (.int 1))))) (mCons (mVar 1) mNil)) [])) sNext)
    (sSeq (sIf (mTest (m2 (dE false) (mVar 4) (mLit (.str (Str.ofString "at"))))) (sSeq (sSet 5 (m2 dGet (mVar 3) (m2 dIx (mVar 0) (mLit (.int 1)))))
    (sSeq (sSet 6 (mCall 1 f__law_number (mCons (mCall 4 rec (mCons (m2 dIx (mVar 0) (mLit (.int 2))) (mCons (mVar 1) (mCons (mVar 2) (mCons (mVar 3) mNil)))) []) mNil) []))
    (sSeq (sFor (mRange1 (mLit (.int 40))) (gNm 7) (sIf (mTest (m2 dGe (mVar 6) (mBi dLen (mCons (mVar 5) mNil)))) (sSet 6 (m2 dSub (mVar 6) (mBi dLen (mCons (mVar 5) mNil)))) sNext))
    (sRet (mCall 2 f__law_bits (mCons (m2 dIx (mVar 5) (mVar 6)) (mCons (mVar 1) mNil)) []))))) sNext)
    (sSeq (sSet 8 (mCall 4 rec (mCons (m2 dIx (mVar 0) (mLit (.int 1))) (mCons (mVar 1) (mCons (mVar 2) (mCons (mVar 3) mNil)))) []))
    (sSeq (sIf (mTest (m2 (dE false) (mVar 4) (mLit (.str (Str.ofString "~"))))) (sRet (mLc (mIter (mVar 8)) (gNm 9) mYes (m2 dSub (mLit (.int 1)) (mVar 9)) [9])) sNext)
    (sSeq (sIf (mTest (m2 (dIn false) (mVar 4) (mTup (mCons (mLit (.str (Str.ofString "half"))) (mCons (mLit (.str (Str.ofString "twice"))) mNil))))) (sRet (mIte (mTest (m2 (dE false) (mVar 4) (mLit (.str (Str.ofString "half"))))) (m2 dAdd (mSl (mVar 8) (mPart (mLit (.int 1))) mNoP) (mLst (mCons (mLit (.int 0)) mNil))) (m2 dAdd (mLst (mCons (mLit (.int 0)) mNil)) (mSl (mVar 8) mNoP (mPart (m1 dNeg (mLit (.int 1)))))))) sNext)
    (sRet (mCall 3 f__law_joined (mCons (mVar 4) (mCons (mVar 8) (mCons (mCall 4 rec (mCons (m2 dIx (mVar 0) (mLit (.int 2))) (mCons (mVar 1) (mCons (mVar 2) (mCons (mVar 3) mNil)))) []) mNil))) []))))))))
noncomputable def f__law_due : Nat → FM
  | 0 => fun _ _ => .bad
  | k + 1 => runF 10 (m__law_due (f__law_due k))
abbrev s__law_of : Stmt := topS 8
theorem sc__law_of : FnScope ["bag", "things"] ["bag", "things"] (defScope s__law_of) := ⟨rfl, rfl, rfl, by decide +kernel, rfl, by decide +kernel, by decide +kernel⟩
noncomputable def m__law_of : Sg → Mh → RS := (sRet (m2 dIx (mVar 1) (mCall 2 f__law_draw (mCons (mVar 0) (mCons (mBi dLen (mCons (mVar 1) mNil)) mNil)) [])))
noncomputable def f__law_of : FM := runF 2 m__law_of
abbrev s__law_leaf : Stmt := topS 13
theorem sc__law_leaf : FnScope ["bag", "some", "top"] ["bag", "some", "top"] (defScope s__law_leaf) := ⟨rfl, rfl, rfl, by decide +kernel, rfl, by decide +kernel, by decide +kernel⟩
noncomputable def m__law_leaf : Sg → Mh → RS := (sSeq (sIf (mAndT (mTest (m2 (dE true) (mVar 1) (mLst mNil))) (mTest (m2 dGt (mCall 2 f__law_draw (mCons (mVar 0) (mCons (mLit (.int 3)) mNil)) []) (mLit (.int 0))))) (sRet (mTup (mCons (mLit (.str (Str.ofString "word"))) (mCons (mCall 2 f__law_of (mCons (mVar 0) (mCons (mVar 1) mNil)) []) mNil)))) sNext)
    (sRet (mTup (mCons (mLit (.str (Str.ofString "number"))) (mCons (mCall 2 f__law_of (mCons (mVar 0) (mCons (mLst (mCons (mLit (.int 0)) (mCons (mLit (.int 1)) (mCons (m2 dSub (mVar 2) (mLit (.int 1))) (mCons (mCall 2 f__law_draw (mCons (mVar 0) (mCons (mVar 2) mNil)) []) mNil))))) mNil)) []) mNil)))))
noncomputable def f__law_leaf : FM := runF 3 m__law_leaf
abbrev s__law_tree : Stmt := topS 14
theorem sc__law_tree : FnScope ["bag", "room", "some", "lots", "top", "way", "sign", "cut", "one"] ["bag", "room", "some", "lots", "top"] (defScope s__law_tree) := ⟨rfl, rfl, rfl, by decide +kernel, rfl, by decide +kernel, by decide +kernel⟩
noncomputable def m__law_tree (rec : FM) : Sg → Mh → RS := (sSeq (sSet 5 (mCall 2 f__law_draw (mCons (mVar 0) (mCons (mLit (.int 10)) mNil)) []))
    (sSeq (sIf (mOrT (mTest (m2 dLt (mVar 1) (mLit (.int 2)))) (mTest (m2 (dE false) (mVar 5) (mLit (.int 0))))) (sRet (mCall 3 f__law_leaf (mCons (mVar 0) (mCons (mVar 2) (mCons (mVar 4) mNil))) [])) sNext)
    (sSeq (sIf (mAndT (mTest (m2 (dE false) (mVar 5) (mLit (.int 1)))) (mTest (m2 (dE true) (mVar 3) (mLst mNil)))) (sRet (mTup (mCons (mLit (.str (Str.ofString "at"))) (mCons (m2 dIx (mCall 2 f__law_of (mCons (mVar 0) (mCons (mVar 3) mNil)) []) (mLit (.int 0))) (mCons (mCall 5 rec (mCons (mVar 0) (mCons (m2 dSub (mVar 1) (mLit (.int 2))) (mCons (mVar 2) (mCons (mVar 3) (mCons (mVar 4) mNil))))) []) mNil))))) sNext)
    (sSeq (sIf (mTest (m2 (dIn false) (mVar 5) (mTup (mCons (mLit (.int 2)) (mCons (mLit (.int 3)) mNil))))) (sRet (mTup (mCons (mCall 2 f__law_of (mCons (mVar 0) (mCons (mLst (mCons (mLit (.str (Str.ofString "~"))) (mCons (mLit (.str (Str.ofString "half"))) (mCons (mLit (.str (Str.ofString "twice"))) mNil)))) mNil)) []) (mCons (mCall 5 rec (mCons (mVar 0) (mCons (m2 dSub (mVar 1) (mLit (.int 1))) (mCons (mVar 2) (mCons (mVar 3) (mCons (mVar 4) mNil))))) []) mNil)))) sNext)
    (sSeq (sPar 6 7 (mCons (mCall 2 f__law_of (mCons (mVar 0) (mCons (mLst (mCons (mLit (.str (Str.ofString "+"))) (mCons (mLit (.str (Str.ofString "-"))) (mCons (mLit (.str (Str.ofString "&"))) (mCons (mLit (.str (Str.ofString "|"))) (mCons (mLit (.str (Str.ofString "^"))) (mCons (mLit (.str (Str.ofString "=="))) (mCons (mLit (.str (Str.ofString "<"))) (mCons (mLit (.str (Str.ofString "+"))) (mCons (mLit (.str (Str.ofString "-"))) mNil)))))))))) mNil)) []) (mCons (m2 dAdd (mLit (.int 1)) (mCall 2 f__law_draw (mCons (mVar 0) (mCons (m2 dSub (mVar 1) (mLit (.int 1))) mNil)) [])) mNil)))
    (sSeq (sSet 8 (mCall 5 rec (mCons (mVar 0) (mCons (mVar 7) (mCons (mVar 2) (mCons (mVar 3) (mCons (mVar 4) mNil))))) []))
    (sRet (mTup (mCons (mVar 6) (mCons (mVar 8) (mCons (mCall 5 rec (mCons (mVar 0) (mCons (m2 dSub (mVar 1) (mVar 7)) (mCons (mVar 2) (mCons (mVar 3) (mCons (mVar 4) mNil))))) []) mNil)))))))))))
noncomputable def f__law_tree : Nat → FM
  | 0 => fun _ _ => .bad
  | k + 1 => runF 9 (m__law_tree (f__law_tree k))
abbrev s__law_chain : Stmt := topS 20
theorem sc__law_chain : FnScope ["bag", "some", "lots", "top", "signs", "found", "side", "k", "more"] ["bag", "some", "lots", "top"] (defScope s__law_chain) := ⟨rfl, rfl, rfl, by decide +kernel, rfl, by decide +kernel, by decide +kernel⟩
noncomputable def m__law_chain : Sg → Mh → RS := (sSeq (sSet 4 (mCall 2 f__law_of (mCons (mVar 0) (mCons (mLst (mCons (mLst (mCons (mLit (.str (Str.ofString "+"))) (mCons (mLit (.str (Str.ofString "-"))) mNil))) (mCons (mLst (mCons (mLit (.str (Str.ofString "&"))) (mCons (mLit (.str (Str.ofString "|"))) (mCons (mLit (.str (Str.ofString "^"))) (mCons (mLit (.str (Str.ofString "=="))) (mCons (mLit (.str (Str.ofString "<"))) mNil)))))) (mCons (mLst (mCons (mLit (.str (Str.ofString "+"))) (mCons (mLit (.str (Str.ofString "-"))) (mCons (mLit (.str (Str.ofString "&"))) (mCons (mLit (.str (Str.ofString "|"))) (mCons (mLit (.str (Str.ofString "^"))) (mCons (mLit (.str (Str.ofString "=="))) (mCons (mLit (.str (Str.ofString "<"))) mNil)))))))) (mCons (mLst (mCons (mLit (.str (Str.ofString "-"))) mNil)) (mCons (mLst (mCons (mLit (.str (Str.ofString "<"))) mNil)) mNil)))))) mNil)) []))
    (sSeq (sPar 5 6 (mCons (mCall 3 f__law_leaf (mCons (mVar 0) (mCons (mVar 1) (mCons (mVar 3) mNil))) []) (mCons (mCall 2 f__law_draw (mCons (mVar 0) (mCons (mLit (.int 2)) mNil)) []) mNil)))
    (sSeq (sFor (mRange1 (m2 dAdd (mLit (.int 1)) (mCall 2 f__law_draw (mCons (mVar 0) (mCons (mLit (.int 13)) mNil)) []))) (gNm 7) (sSeq (sSet 8 (mCall 5 (f__law_tree 24) (mCons (mVar 0) (mCons (m2 dAdd (mLit (.int 1)) (mCall 2 f__law_draw (mCons (mVar 0) (mCons (mLit (.int 2)) mNil)) [])) (mCons (mVar 1) (mCons (mVar 2) (mCons (mVar 3) mNil))))) []))
    (sSeq (sSet 5 (mIte (mTest (m2 (dE false) (mVar 6) (mLit (.int 0)))) (mTup (mCons (mCall 2 f__law_of (mCons (mVar 0) (mCons (mVar 4) mNil)) []) (mCons (mVar 5) (mCons (mVar 8) mNil)))) (mTup (mCons (mCall 2 f__law_of (mCons (mVar 0) (mCons (mVar 4) mNil)) []) (mCons (mVar 8) (mCons (mVar 5) mNil))))))
    (sIf (mTest (m2 (dE false) (mCall 2 f__law_draw (mCons (mVar 0) (mCons (mLit (.int 5)) mNil)) []) (mLit (.int 0)))) (sSet 5 (mTup (mCons (mCall 2 f__law_of (mCons (mVar 0) (mCons (mLst (mCons (mLit (.str (Str.ofString "~"))) (mCons (mLit (.str (Str.ofString "half"))) (mCons (mLit (.str (Str.ofString "twice"))) mNil)))) mNil)) []) (mCons (mVar 5) mNil)))) sNext))))
    (sRet (mVar 5)))))
noncomputable def f__law_chain : FM := runF 9 m__law_chain
abbrev s__law_knots : Stmt := topS 23
theorem sc__law_knots : FnScope ["bag", "some", "lots", "top", "two", "found", "inner"] ["bag", "some", "lots", "top"] (defScope s__law_knots) := ⟨rfl, rfl, rfl, by decide +kernel, rfl, by decide +kernel, by decide +kernel⟩
noncomputable def m__law_knots : Sg → Mh → RS := (sSeq (sSet 4 (mTup (mCons (mCall 2 f__law_of (mCons (mVar 0) (mCons (mLst (mCons (mLit (.str (Str.ofString "+"))) (mCons (mLit (.str (Str.ofString "-"))) (mCons (mLit (.str (Str.ofString "&"))) (mCons (mLit (.str (Str.ofString "|"))) (mCons (mLit (.str (Str.ofString "^"))) (mCons (mLit (.str (Str.ofString "=="))) (mCons (mLit (.str (Str.ofString "<"))) mNil)))))))) mNil)) []) (mCons (mTup (mCons (mLit (.str (Str.ofString "word"))) (mCons (m2 dIx (mVar 1) (mLit (.int 0))) mNil))) (mCons (mTup (mCons (mLit (.str (Str.ofString "word"))) (mCons (m2 dIx (mVar 1) (mLit (.int 1))) mNil))) mNil)))))
    (sSeq (sSet 5 (mLst (mCons (mVar 4) (mCons (mTup (mCons (mCall 2 f__law_of (mCons (mVar 0) (mCons (mLst (mCons (mLit (.str (Str.ofString "~"))) (mCons (mLit (.str (Str.ofString "half"))) (mCons (mLit (.str (Str.ofString "twice"))) mNil)))) mNil)) []) (mCons (mCall 2 f__law_of (mCons (mVar 0) (mCons (mLst (mCons (mVar 4) (mCons (mTup (mCons (mLit (.str (Str.ofString "word"))) (mCons (m2 dIx (mVar 1) (mLit (.int 0))) mNil))) mNil))) mNil)) []) mNil))) mNil))))
    (sSeq (sIf (mTest (m2 (dE true) (mVar 2) (mLst mNil))) (sSeq (sSet 6 (mTup (mCons (mLit (.str (Str.ofString "at"))) (mCons (m2 dIx (mCall 2 f__law_of (mCons (mVar 0) (mCons (mVar 2) mNil)) []) (mLit (.int 0))) (mCons (mCall 2 f__law_of (mCons (mVar 0) (mCons (mLst (mCons (mVar 4) (mCons (mTup (mCons (mLit (.str (Str.ofString "word"))) (mCons (m2 dIx (mVar 1) (mLit (.int 0))) mNil))) mNil))) mNil)) []) mNil)))))
    (sExpr (mMt "list" dAppend (mVar 5) (mCons (mTup (mCons (mLit (.str (Str.ofString "at"))) (mCons (m2 dIx (mCall 2 f__law_of (mCons (mVar 0) (mCons (mVar 2) mNil)) []) (mLit (.int 0))) (mCons (mVar 6) mNil)))) mNil)))) sNext)
    (sSeq (sExpr (mMt "list" dAppend (mVar 5) (mCons (mCall 5 (f__law_tree 24) (mCons (mVar 0) (mCons (mCall 2 f__law_of (mCons (mVar 0) (mCons (mLst (mCons (mLit (.int 6)) (mCons (mLit (.int 10)) (mCons (mLit (.int 14)) (mCons (mLit (.int 20)) mNil))))) mNil)) []) (mCons (mVar 1) (mCons (mVar 2) (mCons (mVar 3) mNil))))) []) mNil)))
    (sRet (m2 dAdd (mVar 5) (mLst (mCons (mCall 4 f__law_chain (mCons (mVar 0) (mCons (mVar 1) (mCons (mVar 2) (mCons (mVar 3) mNil)))) []) mNil))))))))
noncomputable def f__law_knots : FM := runF 7 m__law_knots
abbrev s__law_own_words : Stmt := topS 10
theorem sc__law_own_words : FnScope [] [] (defScope s__law_own_words) := ⟨rfl, rfl, rfl, by decide +kernel, rfl, by decide +kernel, by decide +kernel⟩
noncomputable def m__law_own_words : Sg → Mh → RS := (sRet (mLst (mCons (mLit (.str (Str.ofString "width"))) (mCons (mLit (.str (Str.ofString "secret"))) (mCons (mLit (.str (Str.ofString "word"))) (mCons (mLit (.str (Str.ofString "row"))) (mCons (mLit (.str (Str.ofString "if"))) (mCons (mLit (.str (Str.ofString "else"))) (mCons (mLit (.str (Str.ofString "while"))) (mCons (mLit (.str (Str.ofString "end"))) (mCons (mLit (.str (Str.ofString "show"))) (mCons (mLit (.str (Str.ofString "stop"))) (mCons (mLit (.str (Str.ofString "half"))) (mCons (mLit (.str (Str.ofString "twice"))) mNil))))))))))))))
noncomputable def f__law_own_words : FM := runF 0 m__law_own_words
abbrev s__law_is_name : Stmt := topS 11
theorem sc__law_is_name : FnScope ["piece", "sign"] ["piece"] (defScope s__law_is_name) := ⟨rfl, rfl, rfl, by decide +kernel, rfl, by decide +kernel, by decide +kernel⟩
noncomputable def m__law_is_name : Sg → Mh → RS := (sSeq (sIf (mOrT (mNotT (mTest (mChain dLe dLe (mLit (.int 1)) (mBi dLen (mCons (mVar 0) mNil)) (mLit (.int 8))))) (mOrT (mTest (m2 (dIn false) (mVar 0) (mCall 0 f__law_own_words mNil []))) (mTest (m2 (dIn true) (m2 dIx (mVar 0) (mLit (.int 0))) (mLit (.str (Str.ofString "abcdefghijklmnopqrstuvwxyz"))))))) (sRet (mLit (.bl false))) sNext)
    (sSeq (sIf (mTest (m2 (dE true) (mLc (mIter (mVar 0)) (gNm 1) (mTest (m2 (dIn true) (mVar 1) (mLit (.str (Str.ofString "abcdefghijklmnopqrstuvwxyz0123456789"))))) (mVar 1) [1]) (mLst mNil))) (sRet (mLit (.bl false))) sNext)
    (sRet (mOr (m2 (dE true) (m2 dIx (mVar 0) (mLit (.int 0))) (mLit (.str (Str.ofString "t")))) (mOr (m2 (dE false) (mBi dLen (mCons (mVar 0) mNil)) (mLit (.int 1))) (m2 (dE true) (mLc (mIter (mSl (mVar 0) (mPart (mLit (.int 1))) mNoP)) (gNm 1) (mTest (m2 (dIn true) (mVar 1) (mLit (.str (Str.ofString "0123456789"))))) (mVar 1) [1]) (mLst mNil)))))))
noncomputable def f__law_is_name : FM := runF 2 m__law_is_name
abbrev s__law_names : Stmt := topS 12
theorem sc__law_names : FnScope ["bag", "many", "stem", "cut", "pool", "letter", "one", "k"] ["bag", "many"] (defScope s__law_names) := ⟨rfl, rfl, rfl, by decide +kernel, rfl, by decide +kernel, by decide +kernel⟩
noncomputable def m__law_names : Sg → Mh → RS := (sSeq (sSet 2 (mCall 2 f__law_of (mCons (mVar 0) (mCons (mLst (mCons (mLit (.str (Str.ofString ""))) (mCons (mLit (.str (Str.ofString ""))) (mCons (mLit (.str (Str.ofString "a"))) (mCons (mLit (.str (Str.ofString "t"))) (mCons (mLit (.str (Str.ofString "x1"))) (mCons (mLit (.str (Str.ofString "self"))) (mCons (mLit (.str (Str.ofString "hal"))) (mCons (mLit (.str (Str.ofString "load"))) (mCons (mLit (.str (Str.ofString "widths"))) (mCons (mLit (.str (Str.ofString "ro2"))) (mCons (mLit (.str (Str.ofString "tt0"))) (mCons (mLit (.str (Str.ofString "*"))) mNil))))))))))))) mNil)) []))
    (sSeq (sIf (mTest (m2 (dE false) (mVar 2) (mLit (.str (Str.ofString "*"))))) (sSet 2 (mMt "str" dJoin (mLit (.str (Str.ofString ""))) (mCons (mLc (mRange1 (m2 dAdd (mLit (.int 1)) (mCall 2 f__law_draw (mCons (mVar 0) (mCons (mLit (.int 6)) mNil)) []))) (gNm 7) mYes (mCall 2 f__law_of (mCons (mVar 0) (mCons (mLit (.str (Str.ofString "abcdefghijklmnopqrstuvwxyz0123456789"))) mNil)) []) [7]) mNil))) sNext)
    (sSeq (sAsg (gTp 2 (gsCons (gNm 3) (gsCons (gNm 4) gsNil))) (mTup (mCons (mCall 2 f__law_draw (mCons (mVar 0) (mCons (m2 dAdd (mBi dLen (mCons (mVar 2) mNil)) (mLit (.int 1))) mNil)) []) (mCons (mLst (mCons (mLit (.str (Str.ofString "a"))) (mCons (mLit (.str (Str.ofString "self"))) (mCons (mLit (.str (Str.ofString "t"))) (mCons (mLit (.str (Str.ofString "t1a"))) (mCons (mLit (.str (Str.ofString "load"))) (mCons (mLit (.str (Str.ofString "zzzzzzzz"))) (mCons (mLit (.str (Str.ofString "index"))) (mCons (mLit (.str (Str.ofString "width2"))) (mCons (mLit (.str (Str.ofString "ifs"))) mNil)))))))))) mNil))))
    (sSeq (sFor (mIter (mLit (.str (Str.ofString "abcdefghijklmnopqrstuvwxyz")))) (gNm 5) (sSeq (sSet 6 (m2 dAdd (m2 dAdd (mSl (mVar 2) mNoP (mPart (mVar 3))) (mVar 5)) (mSl (mVar 2) (mPart (mVar 3)) mNoP)))
    (sIf (mAndT (mTru (mCall 1 f__law_is_name (mCons (mVar 6) mNil) [])) (mTest (m2 (dIn true) (mVar 6) (mVar 4)))) (sExpr (mMt "list" dAppend (mVar 4) (mCons (mVar 6) mNil))) sNext)))
    (sSeq (sFor (mIter (mLit (.str (Str.ofString "bcdefghijklmn")))) (gNm 5) (sIf (mTest (m2 (dIn true) (mVar 5) (mVar 4))) (sExpr (mMt "list" dAppend (mVar 4) (mCons (mVar 5) mNil))) sNext))
    (sRet (mLc (mRange1 (mVar 1)) (gNm 7) mYes (mMt "list" dPopAt (mVar 4) (mCons (mCall 2 f__law_draw (mCons (mVar 0) (mCons (mBi dLen (mCons (mVar 4) mNil)) mNil)) []) mNil)) [7])))))))
noncomputable def f__law_names : FM := runF 8 m__law_names
abbrev s__law_pairs : Stmt := topS 21
theorem sc__law_pairs : FnScope ["bag", "wide", "top", "ends", "k"] ["bag", "wide"] (defScope s__law_pairs) := ⟨rfl, rfl, rfl, by decide +kernel, rfl, by decide +kernel, by decide +kernel⟩
noncomputable def m__law_pairs : Sg → Mh → RS := (sSeq (sSet 2 (m2 dShl (mLit (.int 1)) (mVar 1)))
    (sSeq (sIf (mOrT (mTest (m2 dLt (mVar 1) (mLit (.int 3)))) (mAndT (mTest (m2 (dE false) (mVar 1) (mLit (.int 3)))) (mTest (m2 (dE false) (mCall 2 f__law_draw (mCons (mVar 0) (mCons (mLit (.int 2)) mNil)) []) (mLit (.int 0)))))) (sRet (mLc (mRange1 (m2 dMul (mVar 2) (mVar 2))) (gNm 4) mYes (mTup (mCons (m2 dFdiv (mVar 4) (mVar 2)) (mCons (m2 dSub (mVar 4) (m2 dMul (m2 dFdiv (mVar 4) (mVar 2)) (mVar 2))) mNil))) [4])) sNext)
    (sSeq (sSet 3 (mLst (mCons (mLit (.int 0)) (mCons (mLit (.int 1)) (mCons (m2 dSub (m2 dFdiv (mVar 2) (mLit (.int 2))) (mLit (.int 1))) (mCons (m2 dFdiv (mVar 2) (mLit (.int 2))) (mCons (m2 dSub (mVar 2) (mLit (.int 1))) mNil)))))))
    (sRet (mLc (mRange1 (mLit (.int 10))) (gNm 4) mYes (mTup (mCons (mCall 2 f__law_of (mCons (mVar 0) (mCons (m2 dAdd (mVar 3) (mLst (mCons (mCall 2 f__law_draw (mCons (mVar 0) (mCons (mVar 2) mNil)) []) mNil))) mNil)) []) (mCons (mCall 2 f__law_of (mCons (mVar 0) (mCons (m2 dAdd (mVar 3) (mLst (mCons (mCall 2 f__law_draw (mCons (mVar 0) (mCons (mVar 2) mNil)) []) mNil))) mNil)) []) mNil))) [4])))))
noncomputable def f__law_pairs : FM := runF 5 m__law_pairs
abbrev s_law : Stmt := topS 25
theorem sc_law : FnScope ["script", "bag", "wide", "names", "some", "top", "lots", "k", "far", "knots", "pairs", "table", "pair", "knot", "turn", "large", "x", "y", "here", "due", "again"] ["script"] (defScope s_law) := ⟨rfl, rfl, rfl, by decide +kernel, rfl, by decide +kernel, by decide +kernel⟩
noncomputable def m_law : Sg → Mh → RS := (sSeq (sSet 1 (mCall 1 f__law_bag (mCons (mVar 0) mNil) []))
    (sSeq (sAsg (gTp 2 (gsCons (gNm 2) (gsCons (gNm 3) gsNil))) (mTup (mCons (mCall 2 f__law_of (mCons (mVar 1) (mCons (mLst (mCons (mLit (.int 2)) (mCons (mLit (.int 3)) (mCons (mLit (.int 1)) (mCons (mLit (.int 4)) (mCons (mLit (.int 5)) (mCons (mLit (.int 6)) mNil))))))) mNil)) []) (mCons (mCall 2 f__law_names (mCons (mVar 1) (mCons (mLit (.int 7)) mNil)) []) mNil))))
    (sSeq (sAsg (gTp 3 (gsCons (gNm 4) (gsCons (gNm 5) (gsCons (gNm 6) gsNil)))) (mTup (mCons (mSl (mVar 3) mNoP (mPart (mLit (.int 2)))) (mCons (m2 dShl (mLit (.int 1)) (mVar 2)) (mCons (mLst mNil) mNil)))))
    (sSeq (sFor (mRange1 (mCall 2 f__law_draw (mCons (mVar 1) (mCons (mLit (.int 3)) mNil)) [])) (gNm 7) (sExpr (mMt "list" dAppend (mVar 6) (mCons (mTup (mCons (m2 dIx (mVar 3) (m2 dAdd (mLit (.int 2)) (mVar 7))) (mCons (mCall 2 f__law_of (mCons (mVar 1) (mCons (mLst (mCons (mLit (.int 2)) (mCons (mLit (.int 4)) (mCons (mLit (.int 8)) mNil)))) mNil)) []) mNil))) mNil))))
    (sSeq (sSet 8 (mCall 2 f__law_of (mCons (mVar 1) (mCons (mLst (mCons (mVar 5) (mCons (mVar 5) (mCons (mVar 5) (mCons (m2 dAdd (m2 dMul (mLit (.int 4)) (mVar 5)) (mLit (.int 3))) (mCons (m2 dPow (mLit (.int 10)) (mLit (.int 9))) mNil)))))) mNil)) []))
    (sSeq (sPar 9 10 (mCons (mCall 4 f__law_knots (mCons (mVar 1) (mCons (mVar 4) (mCons (mVar 6) (mCons (mVar 8) mNil)))) []) (mCons (mCall 2 f__law_pairs (mCons (mVar 1) (mCons (mVar 2) mNil)) []) mNil)))
    (sSeq (sIf (mTest (m2 dGt (mVar 8) (mVar 5))) (sSet 10 (mLc (mIter (mSl (mVar 10) mNoP (mPart (mLit (.int 12))))) (gTp 2 (gsCons (gNm 16) (gsCons (gNm 17) gsNil))) mYes (mTup (mCons (mCall 2 f__law_draw (mCons (mVar 1) (mCons (mVar 8) mNil)) []) (mCons (m2 dAdd (mVar 16) (m2 dMul (mVar 5) (mCall 2 f__law_draw (mCons (mVar 1) (mCons (mLit (.int 3)) mNil)) []))) mNil))) [16, 17])) sNext)
    (sSeq (sSet 11 mDNew)
    (sSeq (sFor (mIter (mVar 6)) (gNm 12) (sPut dPutD (mVar 11) (m2 dIx (mVar 12) (mLit (.int 0))) (mLc (mRange1 (m2 dIx (mVar 12) (mLit (.int 1)))) (gNm 7) mYes (mCall 2 f__law_draw (mCons (mVar 1) (mCons (mVar 8) mNil)) []) [7])))
    (sSeq (sFor (mIter (mVar 9)) (gNm 13) (sSeq (sSet 14 (mCall 2 f__law_draw (mCons (mVar 1) (mCons (mLit (.int 3)) mNil)) []))
    (sSeq (sSet 15 (mOr (m2 (dE false) (mVar 13) (m2 dIx (mVar 9) (m1 dNeg (mLit (.int 1))))) (m2 (dE false) (mVar 13) (m2 dIx (mVar 9) (m1 dNeg (mLit (.int 2)))))))
    (sSeq (sFor (mIter (mIte (mTru (mVar 15)) (mSl (mVar 10) mNoP (mPart (mLit (.int 8)))) (mVar 10))) (gTp 2 (gsCons (gNm 16) (gsCons (gNm 17) gsNil))) (sSeq (sSet 18 (mDisp (mPCons (m2 dIx (mVar 4) (mLit (.int 0))) (mVar 16) (mPCons (m2 dIx (mVar 4) (mLit (.int 1))) (mVar 17) mPNil))))
    (sSeq (sSet 19 (mCall 1 f__law_number (mCons (mCall 4 (f__law_due 64) (mCons (mVar 13) (mCons (mVar 2) (mCons (mVar 18) (mCons (mVar 11) mNil)))) []) mNil) []))
    (sIf (mNotT (mTru (mCall 2 (f__law_like 8) (mCons (mCall 6 f__law_asked (mCons (mVar 13) (mCons (mVar 2) (mCons (mVar 18) (mCons (mVar 11) (mCons (mVar 3) (mCons (mVar 14) mNil)))))) []) (mCons (mVar 19) mNil)) []))) (sRet (mLit (.bl false))) sNext))))
    (sSeq (sSet 18 (mDisp (mPCons (m2 dIx (mVar 4) (mLit (.int 1))) (m2 dIx (m2 dIx (mVar 10) (mLit (.int 0))) (mLit (.int 1))) (mPCons (m2 dIx (mVar 4) (mLit (.int 0))) (m2 dIx (m2 dIx (mVar 10) (mLit (.int 0))) (mLit (.int 0))) mPNil))))
    (sSeq (sSet 20 (mLc (mRange1 (mLit (.int 3))) (gNm 7) mYes (mCall 6 f__law_asked (mCons (mVar 13) (mCons (mVar 2) (mCons (mVar 18) (mCons (mVar 11) (mCons (mVar 3) (mCons (mVar 7) mNil)))))) []) [7]))
    (sIf (mNotT (mTru (mCall 2 (f__law_like 8) (mCons (mVar 20) (mCons (m2 dMul (mLst (mCons (mCall 1 f__law_number (mCons (mCall 4 (f__law_due 64) (mCons (mVar 13) (mCons (mVar 2) (mCons (mVar 18) (mCons (mVar 11) mNil)))) []) mNil) []) mNil)) (mLit (.int 3))) mNil)) []))) (sRet (mLit (.bl false))) sNext)))))))
    (sRet (mCall 1 f__law_any_lengths_so (mCons (mVar 1) mNil) []))))))))))))
noncomputable def f_law : FM := runF 21 m_law
structure Txt (K : PySem.W.Frag) (mg : Str → Option Value) where
  n_all : mg "all" = none
  n_bool : mg "bool" = none
  n_dict : mg "dict" = none
  n_int : mg "int" = none
  n_isinstance : mg "isinstance" = none
  n_len : mg "len" = none
  n_list : mg "list" = none
  n_range : mg "range" = none
  n_sorted : mg "sorted" = none
  n_str : mg "str" = none
  n_tuple : mg "tuple" = none
  n_zip : mg "zip" = none
  a__law_draw : Addr
  d__law_draw : FuncData
  F__law_draw : Fun K "_law_draw" "_law_draw" s__law_draw a__law_draw d__law_draw
  g__law_draw : mg "_law_draw" = some (.ref a__law_draw)
  b__law_draw : L2.Binds K d__law_draw ["bag", "size"] []
  a__law_like : Addr
  d__law_like : FuncData
  F__law_like : Fun K "_law_like" "_law_like" s__law_like a__law_like d__law_like
  g__law_like : mg "_law_like" = some (.ref a__law_like)
  b__law_like : L2.Binds K d__law_like ["found", "due"] []
  a_prefix_worth : Addr
  d_prefix_worth : FuncData
  F_prefix_worth : Fun K "prefix_worth" "prefix_worth" s_prefix_worth a_prefix_worth d_prefix_worth
  g_prefix_worth : mg "prefix_worth" = some (.ref a_prefix_worth)
  b_prefix_worth : L2.Binds K d_prefix_worth ["prefix", "number", "size"] []
  a_sign_worth : Addr
  d_sign_worth : FuncData
  F_sign_worth : Fun K "sign_worth" "sign_worth" s_sign_worth a_sign_worth d_sign_worth
  g_sign_worth : mg "sign_worth" = some (.ref a_sign_worth)
  b_sign_worth : L2.Binds K d_sign_worth ["sign", "left", "right", "size"] []
  a_worth : Addr
  d_worth : FuncData
  F_worth : Fun K "worth" "worth" s_worth a_worth d_worth
  g_worth : mg "worth" = some (.ref a_worth)
  b_worth : L2.Binds K d_worth ["tree", "width", "words", "rows"] []
  a__law_any_lengths_so : Addr
  d__law_any_lengths_so : FuncData
  F__law_any_lengths_so : Fun K "_law_any_lengths_so" "_law_any_lengths_so" s__law_any_lengths_so a__law_any_lengths_so d__law_any_lengths_so
  g__law_any_lengths_so : mg "_law_any_lengths_so" = some (.ref a__law_any_lengths_so)
  b__law_any_lengths_so : L2.Binds K d__law_any_lengths_so ["bag"] []
  a__law_asked : Addr
  d__law_asked : FuncData
  F__law_asked : Fun K "_law_asked" "_law_asked" s__law_asked a__law_asked d__law_asked
  g__law_asked : mg "_law_asked" = some (.ref a__law_asked)
  b__law_asked : L2.Binds K d__law_asked ["knot", "wide", "here", "lots", "names", "turn"] []
  a__law_bag : Addr
  d__law_bag : FuncData
  F__law_bag : Fun K "_law_bag" "_law_bag" s__law_bag a__law_bag d__law_bag
  g__law_bag : mg "_law_bag" = some (.ref a__law_bag)
  b__law_bag : L2.Binds K d__law_bag ["script"] []
  a__law_bits : Addr
  d__law_bits : FuncData
  F__law_bits : Fun K "_law_bits" "_law_bits" s__law_bits a__law_bits d__law_bits
  g__law_bits : mg "_law_bits" = some (.ref a__law_bits)
  b__law_bits : L2.Binds K d__law_bits ["number", "wide"] []
  a__law_sum : Addr
  d__law_sum : FuncData
  F__law_sum : Fun K "_law_sum" "_law_sum" s__law_sum a__law_sum d__law_sum
  g__law_sum : mg "_law_sum" = some (.ref a__law_sum)
  b__law_sum : L2.Binds K d__law_sum ["one", "two", "carry"] []
  a__law_joined : Addr
  d__law_joined : FuncData
  F__law_joined : Fun K "_law_joined" "_law_joined" s__law_joined a__law_joined d__law_joined
  g__law_joined : mg "_law_joined" = some (.ref a__law_joined)
  b__law_joined : L2.Binds K d__law_joined ["sign", "one", "two"] []
  a__law_number : Addr
  d__law_number : FuncData
  F__law_number : Fun K "_law_number" "_law_number" s__law_number a__law_number d__law_number
  g__law_number : mg "_law_number" = some (.ref a__law_number)
  b__law_number : L2.Binds K d__law_number ["row"] []
  a__law_due : Addr
  d__law_due : FuncData
  F__law_due : Fun K "_law_due" "_law_due" s__law_due a__law_due d__law_due
  g__law_due : mg "_law_due" = some (.ref a__law_due)
  b__law_due : L2.Binds K d__law_due ["knot", "wide", "some", "lots"] []
  a__law_of : Addr
  d__law_of : FuncData
  F__law_of : Fun K "_law_of" "_law_of" s__law_of a__law_of d__law_of
  g__law_of : mg "_law_of" = some (.ref a__law_of)
  b__law_of : L2.Binds K d__law_of ["bag", "things"] []
  a__law_leaf : Addr
  d__law_leaf : FuncData
  F__law_leaf : Fun K "_law_leaf" "_law_leaf" s__law_leaf a__law_leaf d__law_leaf
  g__law_leaf : mg "_law_leaf" = some (.ref a__law_leaf)
  b__law_leaf : L2.Binds K d__law_leaf ["bag", "some", "top"] []
  a__law_tree : Addr
  d__law_tree : FuncData
  F__law_tree : Fun K "_law_tree" "_law_tree" s__law_tree a__law_tree d__law_tree
  g__law_tree : mg "_law_tree" = some (.ref a__law_tree)
  b__law_tree : L2.Binds K d__law_tree ["bag", "room", "some", "lots", "top"] []
  a__law_chain : Addr
  d__law_chain : FuncData
  F__law_chain : Fun K "_law_chain" "_law_chain" s__law_chain a__law_chain d__law_chain
  g__law_chain : mg "_law_chain" = some (.ref a__law_chain)
  b__law_chain : L2.Binds K d__law_chain ["bag", "some", "lots", "top"] []
  a__law_knots : Addr
  d__law_knots : FuncData
  F__law_knots : Fun K "_law_knots" "_law_knots" s__law_knots a__law_knots d__law_knots
  g__law_knots : mg "_law_knots" = some (.ref a__law_knots)
  b__law_knots : L2.Binds K d__law_knots ["bag", "some", "lots", "top"] []
  a__law_own_words : Addr
  d__law_own_words : FuncData
  F__law_own_words : Fun K "_law_own_words" "_law_own_words" s__law_own_words a__law_own_words d__law_own_words
  g__law_own_words : mg "_law_own_words" = some (.ref a__law_own_words)
  b__law_own_words : L2.Binds K d__law_own_words [] []
  a__law_is_name : Addr
  d__law_is_name : FuncData
  F__law_is_name : Fun K "_law_is_name" "_law_is_name" s__law_is_name a__law_is_name d__law_is_name
  g__law_is_name : mg "_law_is_name" = some (.ref a__law_is_name)
  b__law_is_name : L2.Binds K d__law_is_name ["piece"] []
  a__law_names : Addr
  d__law_names : FuncData
  F__law_names : Fun K "_law_names" "_law_names" s__law_names a__law_names d__law_names
  g__law_names : mg "_law_names" = some (.ref a__law_names)
  b__law_names : L2.Binds K d__law_names ["bag", "many"] []
  a__law_pairs : Addr
  d__law_pairs : FuncData
  F__law_pairs : Fun K "_law_pairs" "_law_pairs" s__law_pairs a__law_pairs d__law_pairs
  g__law_pairs : mg "_law_pairs" = some (.ref a__law_pairs)
  b__law_pairs : L2.Binds K d__law_pairs ["bag", "wide"] []
  a_law : Addr
  d_law : FuncData
  F_law : Fun K "law" "law" s_law a_law d_law
  g_law : mg "law" = some (.ref a_law)
  b_law : L2.Binds K d_law ["script"] []
  kb_worth : KwB K d_worth ["tree", "width", "words", "rows"]
  p_PREFIXES : V
  u_PREFIXES : Value
  g_PREFIXES : mg "PREFIXES" = some u_PREFIXES
  r_PREFIXES : L2.RelV p_PREFIXES u_PREFIXES
  v_PREFIXES : ∀ ρ H, RV K mg ρ H p_PREFIXES c_PREFIXES
section
variable {P : Program} {w : World} {K : PySem.W.Frag} {mg : Str → Option Value} {base : Heap}
theorem ok__law_draw (T : Txt K mg) : FnOk P w K mg base (L2.CX P w) 1 T.a__law_draw T.d__law_draw ["bag", "size"] (spM K mg 2 f__law_draw) := fn_m T.F__law_draw sc__law_draw fun cdv A outer s H E hr => by
  have tk := takes_of (X := cxOf (L2.CX P w) P w K mg base ["bag", "size", "cell", "digit", "seed"] "_law_draw" (defScope s__law_draw) T.a__law_draw cdv A outer s H E) (E := E) rfl rfl rfl rfl
  exact (b_cons (s_putL (q_var 0) q_int (q_add (q_sub_ix (q_var 0) q_int) q_int))
    (b_cons (s_if (t_w (tw_and (t_eq hr.units (q_sub_ix (q_var 0) q_int) q_int) (tw_and1 (t_lt (q_sub_ix (q_var 0) q_int) (q_len T.n_len (l_cons (q_sub_ix (q_var 0) q_int) l_nil)))))) (b_cons (s_set 2 sc__law_draw.nd (q_sub_ix (q_sub_ix (q_var 0) q_int) (q_sub_ix (q_var 0) q_int)))
    (b_cons (s_putL (q_var 0) q_int (q_add (q_sub_ix (q_var 0) q_int) q_int))
    (b_one (s_if (t_ge (q_var 2) (q_pow q_int q_int)) (b_one (s_putL (q_var 0) q_int (q_var 2))) (b_one (s_putL (q_var 0) q_int (q_mod (q_intc T.n_int (l_cons (q_add (q_add (q_mul (q_sub_ix (q_var 0) q_int) q_int) (q_mul (q_mod (q_intc T.n_int (l_cons (q_var 2) l_nil)) q_int) q_int)) q_int) l_nil)) q_int))))))) b_nil)
    (b_cons (s_if (t_gt (q_sub_ix (q_var 0) q_int) q_int) (b_cons (s_set 3 sc__law_draw.nd (q_mod (q_intc T.n_int (l_cons (q_sub_ix (q_var 0) q_int) l_nil)) (q_var 1)))
    (b_cons (s_putL (q_var 0) q_int (q_fdiv (q_sub_ix (q_var 0) q_int) (q_var 1)))
    (b_one (s_ret (q_var 3))))) b_nil)
    (b_cons (s_set 4 sc__law_draw.nd (q_intc T.n_int (l_cons (q_sub_ix (q_var 0) q_int) l_nil)))
    (b_cons (s_putL (q_var 0) q_int (q_mod (q_intc T.n_int (l_cons (q_add (q_add (q_add (q_pow (q_var 4) q_int) (q_mul (q_var 4) q_int)) (q_mul (q_sub_ix (q_var 0) q_int) q_int)) q_int) l_nil)) q_int))
    (b_one (s_ret (q_mod (q_intc T.n_int (l_cons (q_add (q_fdiv (q_sub_ix (q_var 0) q_int) q_int) (q_mul (q_mod (q_intc T.n_int (l_cons (q_sub_ix (q_var 0) q_int) l_nil)) q_int) q_int)) l_nil)) (q_var 1)))))))))
theorem ok__law_like (T : Txt K mg) : ∀ k : Nat, FnOk P w K mg base (L2.CX P w) (0 + k) T.a__law_like T.d__law_like ["found", "due"] (spM K mg 2 (f__law_like k))
  | 0 => no_fuel (ps := ["found", "due"])
  | k + 1 => fn_m T.F__law_like sc__law_like fun cdv A outer s H E hr => by
    have tk := takes_of (X := cxOf (L2.CX P w) P w K mg base ["found", "due", "key", "one", "two"] "_law_like" (defScope s__law_like) T.a__law_like cdv A outer s H E) (E := E) rfl rfl rfl rfl
    have G := ok__law_like T k
    have hrG : Room (0 + k) _ := hr
    have hr : Room (0 + k) _ := hr
    exact (b_cons (s_if (t_w (tw_or (t_is (q_var 1) q_non) (tw_or1 (t_is (q_var 0) q_non)))) (b_one (s_ret (q_and (q_is (q_var 1) q_non) (q_one (q_is (q_var 0) q_non))))) b_nil)
    (b_cons (s_if (t_w (tw_or (t_val (q_isi T.n_isinstance (q_var 1) T.n_dict bt_dict)) (tw_or1 (t_val (q_isi T.n_isinstance (q_var 0) T.n_dict bt_dict))))) (b_cons (s_if (t_w (tw_or (t_not (t_val (q_isi T.n_isinstance (q_var 1) T.n_dict bt_dict))) (tw_or (t_not (t_val (q_isi T.n_isinstance (q_var 0) T.n_dict bt_dict))) (tw_or1 (t_ne hr.units (q_len T.n_len (l_cons (q_var 0) l_nil)) (q_len T.n_len (l_cons (q_var 1) l_nil))))))) (b_one (s_ret q_bl)) b_nil)
    (b_one s_never)) b_nil)
    (b_cons (s_if (t_val (q_isi2 T.n_isinstance (q_var 1) T.n_list bt_list T.n_tuple bt_tuple)) (b_cons (s_if (t_w (tw_or (t_ne hr.units (q_isi T.n_isinstance (q_var 0) T.n_list bt_list) (q_isi T.n_isinstance (q_var 1) T.n_list bt_list)) (tw_or1 (t_ne hr.units (q_isi T.n_isinstance (q_var 0) T.n_tuple bt_tuple) (q_isi T.n_isinstance (q_var 1) T.n_tuple bt_tuple))))) (b_one (s_ret q_bl)) b_nil)
    (b_one (s_ret (q_and (q_eq hr.units (q_len T.n_len (l_cons (q_var 0) l_nil)) (q_len T.n_len (l_cons (q_var 1) l_nil))) (q_one (q_all (by rfl) T.n_all (l_cons (q_lc [("one", 3), ("two", 4)] sc__law_like.nd (i_zip T.n_zip (l_cons (q_var 0) (l_cons (q_var 1) l_nil))) (blkOk_by (N := ["found", "due", "key", "one", "two"]) (sc := defScope s__law_like) (own := [("one", 3), ("two", 4)]) (by decide +kernel)) (fun _ _ _ _ _ => (g_tup (gs_cons (g_name 3 sc__law_like.nd) (gs_cons (g_name 4 sc__law_like.nd) gs_nil)))) (fun _ _ _ _ _ => c_nil) (fun _ _ _ _ _ => (q_call G hrG takes0 T.g__law_like T.F__law_like.kp T.b__law_like (l_cons (q_var 3) (l_cons (q_var 4) l_nil))))) l_nil))))))) b_nil)
    (b_cons (s_if (t_w (tw_or (t_val (q_isi2 T.n_isinstance (q_var 0) T.n_list bt_list T.n_tuple bt_tuple)) (tw_or1 (t_ne hr.units (q_isi T.n_isinstance (q_var 0) T.n_bool bt_bool) (q_isi T.n_isinstance (q_var 1) T.n_bool bt_bool))))) (b_one (s_ret q_bl)) b_nil)
    (b_cons (s_if (t_w (tw_or (t_ne hr.units (q_isi T.n_isinstance (q_var 0) T.n_str bt_str) (q_isi T.n_isinstance (q_var 1) T.n_str bt_str)) (tw_or1 (t_ne hr.units (q_isi T.n_isinstance (q_var 0) T.n_int bt_int) (q_isi T.n_isinstance (q_var 1) T.n_int bt_int))))) (b_one (s_ret q_bl)) b_nil)
    (b_one (s_ret (q_eq hr.units (q_var 0) (q_var 1)))))))))
theorem ok_prefix_worth (T : Txt K mg) : FnOk P w K mg base (L2.CX P w) 1 T.a_prefix_worth T.d_prefix_worth ["prefix", "number", "size"] (spM K mg 3 f_prefix_worth) := fn_m T.F_prefix_worth sc_prefix_worth fun cdv A outer s H E hr => by
  have tk := takes_of (X := cxOf (L2.CX P w) P w K mg base ["prefix", "number", "size"] "prefix_worth" (defScope s_prefix_worth) T.a_prefix_worth cdv A outer s H E) (E := E) rfl rfl rfl rfl
  exact (b_cons (s_if (t_eq hr.units (q_var 0) q_str) (b_one (s_ret (q_fdiv (q_var 1) q_int))) b_nil)
    (b_cons (s_if (t_eq hr.units (q_var 0) q_str) (b_one (s_ret (q_mod (q_mul (q_var 1) q_int) (q_var 2)))) b_nil)
    (b_one (s_ret (q_sub (q_sub (q_var 2) q_int) (q_var 1))))))
theorem ok_sign_worth (T : Txt K mg) : FnOk P w K mg base (L2.CX P w) 1 T.a_sign_worth T.d_sign_worth ["sign", "left", "right", "size"] (spM K mg 4 f_sign_worth) := fn_m T.F_sign_worth sc_sign_worth fun cdv A outer s H E hr => by
  have tk := takes_of (X := cxOf (L2.CX P w) P w K mg base ["sign", "left", "right", "size"] "sign_worth" (defScope s_sign_worth) T.a_sign_worth cdv A outer s H E) (E := E) rfl rfl rfl rfl
  exact (b_cons (s_if (t_eq hr.units (q_var 0) q_str) (b_one (s_ret (q_mod (q_add (q_var 1) (q_var 2)) (q_var 3)))) b_nil)
    (b_cons (s_if (t_eq hr.units (q_var 0) q_str) (b_one (s_ret (q_mod (q_sub (q_var 1) (q_var 2)) (q_var 3)))) b_nil)
    (b_cons (s_if (t_eq hr.units (q_var 0) q_str) (b_one (s_ret (q_band (q_var 1) (q_var 2)))) b_nil)
    (b_cons (s_if (t_eq hr.units (q_var 0) q_str) (b_one (s_ret (q_bor (q_var 1) (q_var 2)))) b_nil)
    (b_cons (s_if (t_eq hr.units (q_var 0) q_str) (b_one (s_ret (q_bxor (q_var 1) (q_var 2)))) b_nil)
    (b_cons (s_if (t_eq hr.units (q_var 0) q_str) (b_one (s_ret (q_ite (t_eq hr.units (q_var 1) (q_var 2)) q_int q_int))) b_nil)
    (b_one (s_ret (q_ite (t_lt (q_var 1) (q_var 2)) q_int q_int)))))))))
theorem ok_worth (T : Txt K mg) : ∀ k : Nat, FnOk P w K mg base (L2.CX P w) (1 + k) T.a_worth T.d_worth ["tree", "width", "words", "rows"] (spM K mg 4 (f_worth k))
  | 0 => no_fuel (ps := ["tree", "width", "words", "rows"])
  | k + 1 => fn_m T.F_worth sc_worth fun cdv A outer s H E hr => by
    have tk := takes_of (X := cxOf (L2.CX P w) P w K mg base ["tree", "width", "words", "rows", "kind", "size", "row", "left", "right"] "worth" (defScope s_worth) T.a_worth cdv A outer s H E) (E := E) rfl rfl rfl rfl
    have G := ok_worth T k
    have hrG : Room (1 + k) _ := hr
    have hr : Room (1 + k) _ := hr
    exact (b_cons (s_set 4 sc_worth.nd (q_sub_ix (q_var 0) q_int))
    (b_cons (s_set 5 sc_worth.nd (q_shl q_int (q_var 1)))
    (b_cons (s_if (t_eq hr.units (q_var 4) q_str) (b_one (s_ret (q_mod (q_sub_ix (q_var 0) q_int) (q_var 5)))) b_nil)
    (b_cons (s_if (t_eq hr.units (q_var 4) q_str) (b_one (s_ret (q_mod (q_dget (hu_of hr) (q_var 2) (q_sub_ix (q_var 0) q_int)) (q_var 5)))) b_nil)
    (b_cons (s_if (t_eq hr.units (q_var 4) q_str) (b_cons (s_set 6 sc_worth.nd (q_dget (hu_of hr) (q_var 3) (q_sub_ix (q_var 0) q_int)))
    (b_one (s_ret (q_mod (q_sub_ix (q_var 6) (q_mod (q_call G hrG tk T.g_worth T.F_worth.kp T.b_worth (l_cons (q_sub_ix (q_var 0) q_int) (l_cons (q_var 1) (l_cons (q_var 2) (l_cons (q_var 3) l_nil))))) (q_len T.n_len (l_cons (q_var 6) l_nil)))) (q_var 5))))) b_nil)
    (b_cons (s_if (t_in (q_var 4) (q_lit (pe_glob (by rfl) T.g_PREFIXES T.r_PREFIXES) T.v_PREFIXES)) (b_one (s_ret (q_call (ok_prefix_worth T) (hr.mono (by omega)) tk T.g_prefix_worth T.F_prefix_worth.kp T.b_prefix_worth (l_cons (q_var 4) (l_cons (q_call G hrG tk T.g_worth T.F_worth.kp T.b_worth (l_cons (q_sub_ix (q_var 0) q_int) (l_cons (q_var 1) (l_cons (q_var 2) (l_cons (q_var 3) l_nil))))) (l_cons (q_var 5) l_nil)))))) b_nil)
    (b_cons (s_set 7 sc_worth.nd (q_call G hrG tk T.g_worth T.F_worth.kp T.b_worth (l_cons (q_sub_ix (q_var 0) q_int) (l_cons (q_var 1) (l_cons (q_var 2) (l_cons (q_var 3) l_nil))))))
    (b_cons (s_set 8 sc_worth.nd (q_call G hrG tk T.g_worth T.F_worth.kp T.b_worth (l_cons (q_sub_ix (q_var 0) q_int) (l_cons (q_var 1) (l_cons (q_var 2) (l_cons (q_var 3) l_nil))))))
    (b_one (s_ret (q_call (ok_sign_worth T) (hr.mono (by omega)) tk T.g_sign_worth T.F_sign_worth.kp T.b_sign_worth (l_cons (q_var 4) (l_cons (q_var 7) (l_cons (q_var 8) (l_cons (q_var 5) l_nil)))))))))))))))
theorem ok__law_any_lengths_so (T : Txt K mg) : FnOk P w K mg base (L2.CX P w) 66 T.a__law_any_lengths_so T.d__law_any_lengths_so ["bag"] (spM K mg 1 f__law_any_lengths_so) := fn_m T.F__law_any_lengths_so sc__law_any_lengths_so fun cdv A outer s H E hr => by
  have tk := takes_of (X := cxOf (L2.CX P w) P w K mg base ["bag", "wide", "size", "top", "row", "k", "found", "j"] "_law_any_lengths_so" (defScope s__law_any_lengths_so) T.a__law_any_lengths_so cdv A outer s H E) (E := E) rfl rfl rfl rfl
  exact (b_cons (s_par 1 2 sc__law_any_lengths_so.nd (l_cons (q_add q_int (q_call (ok__law_draw T) (hr.mono (by decide)) tk T.g__law_draw T.F__law_draw.kp T.b__law_draw (l_cons (q_var 0) (l_cons q_int l_nil)))) (l_cons (q_add q_int (q_call (ok__law_draw T) (hr.mono (by decide)) tk T.g__law_draw T.F__law_draw.kp T.b__law_draw (l_cons (q_var 0) (l_cons q_int l_nil)))) l_nil)))
    (b_cons (s_set 3 sc__law_any_lengths_so.nd (q_shl q_int (q_var 1)))
    (b_cons (s_par 4 5 sc__law_any_lengths_so.nd (l_cons (q_lc [("j", 7)] sc__law_any_lengths_so.nd (i_range1 (q_var 2) T.n_range) (blkOk_by (N := ["bag", "wide", "size", "top", "row", "k", "found", "j"]) (sc := defScope s__law_any_lengths_so) (own := [("j", 7)]) (by decide +kernel)) (fun _ _ _ _ _ => (g_name 7 sc__law_any_lengths_so.nd)) (fun _ _ _ _ _ => c_nil) (fun _ _ _ _ _ => (q_call (ok__law_draw T) (hr.mono (by decide)) takes0 T.g__law_draw T.F__law_draw.kp T.b__law_draw (l_cons (q_var 0) (l_cons (q_var 3) l_nil))))) (l_cons (q_call (ok__law_draw T) (hr.mono (by decide)) tk T.g__law_draw T.F__law_draw.kp T.b__law_draw (l_cons (q_var 0) (l_cons (q_var 3) l_nil))) l_nil)))
    (b_cons (s_set 6 sc__law_any_lengths_so.nd (q_call (ok_worth T 64) (hr.mono (by decide)) tk T.g_worth T.F_worth.kp T.b_worth (l_cons (q_tup (l_cons q_str (l_cons q_str (l_cons (q_tup (l_cons q_str (l_cons q_str l_nil))) l_nil)))) (l_cons (q_var 1) (l_cons (q_disp (d_cons q_str (q_var 5) d_nil)) (l_cons (q_disp (d_cons q_str (q_listc T.n_list (l_cons (q_var 4) l_nil)) d_nil)) l_nil))))))
    (b_one (s_ret (q_call (ok__law_like T 8) (hr.mono (by decide)) tk T.g__law_like T.F__law_like.kp T.b__law_like (l_cons (q_var 6) (l_cons (q_sub_ix (q_var 4) (q_mod (q_intc T.n_int (l_cons (q_var 5) l_nil)) (q_var 2))) l_nil)))))))))
theorem ok__law_asked (T : Txt K mg) : FnOk P w K mg base (L2.CX P w) 66 T.a__law_asked T.d__law_asked ["knot", "wide", "here", "lots", "names", "turn"] (spM K mg 6 f__law_asked) := fn_m T.F__law_asked sc__law_asked fun cdv A outer s H E hr => by
  have tk := takes_of (X := cxOf (L2.CX P w) P w K mg base ["knot", "wide", "here", "lots", "names", "turn", "words_in", "rows_in", "first", "second", "name", "found", "same"] "_law_asked" (defScope s__law_asked) T.a__law_asked cdv A outer s H E) (E := E) rfl rfl rfl rfl
  exact (b_cons (s_asg (g_tup (gs_cons (g_name 6 sc__law_asked.nd) (gs_cons (g_name 7 sc__law_asked.nd) gs_nil))) (q_tup (l_cons q_dnew (l_cons q_dnew l_nil))))
    (b_cons (s_if (t_eq hr.units (q_var 5) q_int) (b_cons (s_putD (hu_of hr) (q_var 6) (q_sub_ix (q_var 4) q_int) q_int)
    (b_one (s_putD (hu_of hr) (q_var 7) (q_sub_ix (q_var 4) q_int) (q_lst (l_cons q_int (l_cons q_int l_nil)))))) b_nil)
    (b_cons (s_par 8 9 sc__law_asked.nd (l_cons (q_sortedD (by rfl) T.n_sorted (l_cons (q_var 2) l_nil)) (l_cons (q_sortedD (by rfl) T.n_sorted (l_cons (q_var 3) l_nil)) l_nil)))
    (b_cons (s_if (t_eq hr.units (q_var 5) q_int) (b_cons (s_expr (q_reverse (q_var 8)))
    (b_one (s_expr (q_reverse (q_var 9))))) b_nil)
    (b_cons (s_for (passes_of rfl) (i_val (q_var 8)) (g_name 10 sc__law_asked.nd) (b_one (s_putD (hu_of hr) (q_var 6) (q_var 10) (q_dget (hu_of hr) (q_var 2) (q_var 10)))))
    (b_cons (s_for (passes_of rfl) (i_val (q_var 9)) (g_name 10 sc__law_asked.nd) (b_one (s_putD (hu_of hr) (q_var 7) (q_var 10) (q_listc T.n_list (l_cons (q_dget (hu_of hr) (q_var 3) (q_var 10)) l_nil)))))
    (b_cons (s_if (t_eq hr.units (q_var 5) q_int) (b_one (s_set 11 sc__law_asked.nd (q_callK (ok_worth T 64) (hr.mono (by decide)) tk T.g_worth T.F_worth.kp T.kb_worth (k_cons (q_var 0) (k_cons (q_var 1) (k_cons (q_var 6) (k_cons (q_var 7) k_nil))))))) (b_one (s_set 11 sc__law_asked.nd (q_call (ok_worth T 64) (hr.mono (by decide)) tk T.g_worth T.F_worth.kp T.b_worth (l_cons (q_var 0) (l_cons (q_var 1) (l_cons (q_var 6) (l_cons (q_var 7) l_nil))))))))
    (b_cons (s_set 12 sc__law_asked.nd (q_eq hr.units (q_lc [("name", 10)] sc__law_asked.nd (i_val (q_sortedD (by rfl) T.n_sorted (l_cons (q_var 2) l_nil))) (blkOk_by (N := ["knot", "wide", "here", "lots", "names", "turn", "words_in", "rows_in", "first", "second", "name", "found", "same"]) (sc := defScope s__law_asked) (own := [("name", 10)]) (by decide +kernel)) (fun _ _ _ _ _ => (g_name 10 sc__law_asked.nd)) (fun _ _ _ _ _ => c_nil) (fun _ _ _ _ _ => (q_dget (hu_of hr) (q_var 6) (q_var 10)))) (q_lc [("name", 10)] sc__law_asked.nd (i_val (q_sortedD (by rfl) T.n_sorted (l_cons (q_var 2) l_nil))) (blkOk_by (N := ["knot", "wide", "here", "lots", "names", "turn", "words_in", "rows_in", "first", "second", "name", "found", "same"]) (sc := defScope s__law_asked) (own := [("name", 10)]) (by decide +kernel)) (fun _ _ _ _ _ => (g_name 10 sc__law_asked.nd)) (fun _ _ _ _ _ => c_nil) (fun _ _ _ _ _ => (q_dget (hu_of hr) (q_var 2) (q_var 10))))))
    (b_cons (s_set 12 sc__law_asked.nd (q_and (q_var 12) (q_one (q_eq hr.units (q_lc [("name", 10)] sc__law_asked.nd (i_val (q_sortedD (by rfl) T.n_sorted (l_cons (q_var 3) l_nil))) (blkOk_by (N := ["knot", "wide", "here", "lots", "names", "turn", "words_in", "rows_in", "first", "second", "name", "found", "same"]) (sc := defScope s__law_asked) (own := [("name", 10)]) (by decide +kernel)) (fun _ _ _ _ _ => (g_name 10 sc__law_asked.nd)) (fun _ _ _ _ _ => c_nil) (fun _ _ _ _ _ => (q_dget (hu_of hr) (q_var 7) (q_var 10)))) (q_lc [("name", 10)] sc__law_asked.nd (i_val (q_sortedD (by rfl) T.n_sorted (l_cons (q_var 3) l_nil))) (blkOk_by (N := ["knot", "wide", "here", "lots", "names", "turn", "words_in", "rows_in", "first", "second", "name", "found", "same"]) (sc := defScope s__law_asked) (own := [("name", 10)]) (by decide +kernel)) (fun _ _ _ _ _ => (g_name 10 sc__law_asked.nd)) (fun _ _ _ _ _ => c_nil) (fun _ _ _ _ _ => (q_dget (hu_of hr) (q_var 3) (q_var 10))))))))
    (b_one (s_ret (q_ite (t_w (tw_and (t_val (q_var 12)) (tw_and1 (t_eq hr.units (q_add (q_len T.n_len (l_cons (q_var 6) l_nil)) (q_len T.n_len (l_cons (q_var 7) l_nil))) (q_add (q_add (q_len T.n_len (l_cons (q_var 2) l_nil)) (q_len T.n_len (l_cons (q_var 3) l_nil))) (q_ite (t_eq hr.units (q_var 5) q_int) q_int q_int)))))) (q_var 11) (q_sub q_int q_int)))))))))))))
theorem ok__law_bag (T : Txt K mg) : FnOk P w K mg base (L2.CX P w) 1 T.a__law_bag T.d__law_bag ["script"] (spM K mg 1 f__law_bag) := fn_m T.F__law_bag sc__law_bag fun cdv A outer s H E hr => by
  have tk := takes_of (X := cxOf (L2.CX P w) P w K mg base ["script", "mix", "cell"] "_law_bag" (defScope s__law_bag) T.a__law_bag cdv A outer s H E) (E := E) rfl rfl rfl rfl
  exact (b_cons (s_set 1 sc__law_bag.nd q_int)
    (b_cons (s_for (passes_of rfl) (i_val (q_slice (q_var 0) p_none (p_some q_int))) (g_name 2 sc__law_bag.nd) (b_one (s_set 1 sc__law_bag.nd (q_mod (q_intc T.n_int (l_cons (q_add (q_add (q_mul (q_var 1) q_int) (q_mod (q_intc T.n_int (l_cons (q_var 2) l_nil)) q_int)) q_int) l_nil)) q_int))))
    (b_one (s_ret (q_lst (l_cons (q_listc T.n_list (l_cons (q_slice (q_var 0) p_none (p_some q_int)) l_nil)) (l_cons q_int (l_cons q_int (l_cons (q_var 1) (l_cons q_int l_nil))))))))))
theorem ok__law_bits (T : Txt K mg) : FnOk P w K mg base (L2.CX P w) 1 T.a__law_bits T.d__law_bits ["number", "wide"] (spM K mg 2 f__law_bits) := fn_m T.F__law_bits sc__law_bits fun cdv A outer s H E hr => by
  have tk := takes_of (X := cxOf (L2.CX P w) P w K mg base ["number", "wide", "found", "k"] "_law_bits" (defScope s__law_bits) T.a__law_bits cdv A outer s H E) (E := E) rfl rfl rfl rfl
  exact (b_cons (s_set 2 sc__law_bits.nd (q_lst l_nil))
    (b_cons (s_for (passes_of rfl) (i_range1 (q_var 1) T.n_range) (g_name 3 sc__law_bits.nd) (b_cons (s_expr (q_append (q_var 2) (q_sub (q_var 0) (q_mul q_int (q_fdiv (q_var 0) q_int)))))
    (b_one (s_set 0 sc__law_bits.nd (q_fdiv (q_var 0) q_int)))))
    (b_one (s_ret (q_var 2)))))
theorem ok__law_sum (T : Txt K mg) : FnOk P w K mg base (L2.CX P w) 1 T.a__law_sum T.d__law_sum ["one", "two", "carry"] (spM K mg 3 f__law_sum) := fn_m T.F__law_sum sc__law_sum fun cdv A outer s H E hr => by
  have tk := takes_of (X := cxOf (L2.CX P w) P w K mg base ["one", "two", "carry", "found", "a", "b"] "_law_sum" (defScope s__law_sum) T.a__law_sum cdv A outer s H E) (E := E) rfl rfl rfl rfl
  exact (b_cons (s_set 3 sc__law_sum.nd (q_lst l_nil))
    (b_cons (s_for (passes_of rfl) (i_zip T.n_zip (l_cons (q_var 0) (l_cons (q_var 1) l_nil))) (g_tup (gs_cons (g_name 4 sc__law_sum.nd) (gs_cons (g_name 5 sc__law_sum.nd) gs_nil))) (b_cons (s_expr (q_append (q_var 3) (q_bxor (q_bxor (q_var 4) (q_var 5)) (q_var 2))))
    (b_one (s_set 2 sc__law_sum.nd (q_bor (q_band (q_var 4) (q_var 5)) (q_band (q_var 2) (q_bxor (q_var 4) (q_var 5))))))))
    (b_one (s_ret (q_lst (l_cons (q_var 3) (l_cons (q_var 2) l_nil)))))))
theorem ok__law_joined (T : Txt K mg) : FnOk P w K mg base (L2.CX P w) 2 T.a__law_joined T.d__law_joined ["sign", "one", "two"] (spM K mg 3 f__law_joined) := fn_m T.F__law_joined sc__law_joined fun cdv A outer s H E hr => by
  have tk := takes_of (X := cxOf (L2.CX P w) P w K mg base ["sign", "one", "two", "back", "yes", "b", "a"] "_law_joined" (defScope s__law_joined) T.a__law_joined cdv A outer s H E) (E := E) rfl rfl rfl rfl
  exact (b_cons (s_lc 3 [("b", 5)] sc__law_joined.nd (i_val (q_var 2)) (blkOk_by (N := ["sign", "one", "two", "back", "yes", "b", "a"]) (sc := defScope s__law_joined) (own := [("b", 5)]) (by decide +kernel)) (fun _ _ _ _ _ => (g_name 5 sc__law_joined.nd)) (fun _ _ _ _ _ => c_nil) (fun _ _ _ _ _ => (q_sub q_int (q_var 5))) (sw_true rfl rfl rfl (by decide +kernel)))
    (b_cons (s_if (t_in (q_var 0) (q_tup (l_cons q_str (l_cons q_str l_nil)))) (b_one (s_ret (q_ite (t_eq hr.units (q_var 0) q_str) (q_sub_ix (q_call (ok__law_sum T) (hr.mono (by decide)) tk T.g__law_sum T.F__law_sum.kp T.b__law_sum (l_cons (q_var 1) (l_cons (q_var 2) (l_cons q_int l_nil)))) q_int) (q_sub_ix (q_call (ok__law_sum T) (hr.mono (by decide)) tk T.g__law_sum T.F__law_sum.kp T.b__law_sum (l_cons (q_var 1) (l_cons (q_var 3) (l_cons q_int l_nil)))) q_int)))) b_nil)
    (b_cons (s_if (t_eq hr.units (q_var 0) q_str) (b_one (s_ret (q_lc [("a", 6), ("b", 5)] sc__law_joined.nd (i_zip T.n_zip (l_cons (q_var 1) (l_cons (q_var 2) l_nil))) (blkOk_by (N := ["sign", "one", "two", "back", "yes", "b", "a"]) (sc := defScope s__law_joined) (own := [("a", 6), ("b", 5)]) (by decide +kernel)) (fun _ _ _ _ _ => (g_tup (gs_cons (g_name 6 sc__law_joined.nd) (gs_cons (g_name 5 sc__law_joined.nd) gs_nil)))) (fun _ _ _ _ _ => c_nil) (fun _ _ _ _ _ => (q_band (q_var 6) (q_var 5)))))) b_nil)
    (b_cons (s_if (t_eq hr.units (q_var 0) q_str) (b_one (s_ret (q_lc [("a", 6), ("b", 5)] sc__law_joined.nd (i_zip T.n_zip (l_cons (q_var 1) (l_cons (q_var 2) l_nil))) (blkOk_by (N := ["sign", "one", "two", "back", "yes", "b", "a"]) (sc := defScope s__law_joined) (own := [("a", 6), ("b", 5)]) (by decide +kernel)) (fun _ _ _ _ _ => (g_tup (gs_cons (g_name 6 sc__law_joined.nd) (gs_cons (g_name 5 sc__law_joined.nd) gs_nil)))) (fun _ _ _ _ _ => c_nil) (fun _ _ _ _ _ => (q_ite (t_gt (q_add (q_var 6) (q_var 5)) q_int) q_int q_int))))) b_nil)
    (b_cons (s_if (t_eq hr.units (q_var 0) q_str) (b_one (s_ret (q_lc [("a", 6), ("b", 5)] sc__law_joined.nd (i_zip T.n_zip (l_cons (q_var 1) (l_cons (q_var 2) l_nil))) (blkOk_by (N := ["sign", "one", "two", "back", "yes", "b", "a"]) (sc := defScope s__law_joined) (own := [("a", 6), ("b", 5)]) (by decide +kernel)) (fun _ _ _ _ _ => (g_tup (gs_cons (g_name 6 sc__law_joined.nd) (gs_cons (g_name 5 sc__law_joined.nd) gs_nil)))) (fun _ _ _ _ _ => c_nil) (fun _ _ _ _ _ => (q_ite (t_ne hr.units (q_var 6) (q_var 5)) q_int q_int))))) b_nil)
    (b_cons (s_set 4 sc__law_joined.nd (q_ite (t_eq hr.units (q_var 0) q_str) (q_eq hr.units (q_var 1) (q_var 2)) (q_eq hr.units (q_sub_ix (q_call (ok__law_sum T) (hr.mono (by decide)) tk T.g__law_sum T.F__law_sum.kp T.b__law_sum (l_cons (q_var 1) (l_cons (q_var 3) (l_cons q_int l_nil)))) q_int) q_int)))
    (b_one (s_ret (q_add (q_lst (l_cons (q_ite (t_val (q_var 4)) q_int q_int) l_nil)) (q_lc [("b", 5)] sc__law_joined.nd (i_val (q_slice (q_var 2) (p_some q_int) p_none)) (blkOk_by (N := ["sign", "one", "two", "back", "yes", "b", "a"]) (sc := defScope s__law_joined) (own := [("b", 5)]) (by decide +kernel)) (fun _ _ _ _ _ => (g_name 5 sc__law_joined.nd)) (fun _ _ _ _ _ => c_nil) (fun _ _ _ _ _ => q_int)))))))))))
theorem ok__law_number (T : Txt K mg) : FnOk P w K mg base (L2.CX P w) 1 T.a__law_number T.d__law_number ["row"] (spM K mg 1 f__law_number) := fn_m T.F__law_number sc__law_number fun cdv A outer s H E hr => by
  have tk := takes_of (X := cxOf (L2.CX P w) P w K mg base ["row", "found", "k"] "_law_number" (defScope s__law_number) T.a__law_number cdv A outer s H E) (E := E) rfl rfl rfl rfl
  exact (b_cons (s_set 1 sc__law_number.nd q_int)
    (b_cons (s_for (passes_of rfl) (i_range1 (q_len T.n_len (l_cons (q_var 0) l_nil)) T.n_range) (g_name 2 sc__law_number.nd) (b_one (s_set 1 sc__law_number.nd (q_add (q_var 1) (q_mul (q_sub_ix (q_var 0) (q_var 2)) (q_shl q_int (q_var 2)))))))
    (b_one (s_ret (q_var 1)))))
theorem ok__law_due (T : Txt K mg) : ∀ k : Nat, FnOk P w K mg base (L2.CX P w) (2 + k) T.a__law_due T.d__law_due ["knot", "wide", "some", "lots"] (spM K mg 4 (f__law_due k))
  | 0 => no_fuel (ps := ["knot", "wide", "some", "lots"])
  | k + 1 => fn_m T.F__law_due sc__law_due fun cdv A outer s H E hr => by
    have tk := takes_of (X := cxOf (L2.CX P w) P w K mg base ["knot", "wide", "some", "lots", "head", "row", "spot", "k", "one", "b"] "_law_due" (defScope s__law_due) T.a__law_due cdv A outer s H E) (E := E) rfl rfl rfl rfl
    have G := ok__law_due T k
    have hrG : Room (2 + k) _ := hr
    have hr : Room (2 + k) _ := hr
    exact (b_cons (s_set 4 sc__law_due.nd (q_sub_ix (q_var 0) q_int))
    (b_cons (s_if (t_in (q_var 4) (q_tup (l_cons q_str (l_cons q_str l_nil)))) (b_one (s_ret (q_call (ok__law_bits T) (hr.mono (by omega)) tk T.g__law_bits T.F__law_bits.kp T.b__law_bits (l_cons (q_ite (t_eq hr.units (q_var 4) q_str) (q_sub_ix (q_var 0) q_int) (q_dget (hu_of hr) (q_var 2) (q_sub_ix (q_var 0) q_int))) (l_cons (q_var 1) l_nil))))) b_nil)
    (b_cons (s_if (t_eq hr.units (q_var 4) q_str) (b_cons (s_set 5 sc__law_due.nd (q_dget (hu_of hr) (q_var 3) (q_sub_ix (q_var 0) q_int)))
    (b_cons (s_set 6 sc__law_due.nd (q_call (ok__law_number T) (hr.mono (by omega)) tk T.g__law_number T.F__law_number.kp T.b__law_number (l_cons (q_call G hrG tk T.g__law_due T.F__law_due.kp T.b__law_due (l_cons (q_sub_ix (q_var 0) q_int) (l_cons (q_var 1) (l_cons (q_var 2) (l_cons (q_var 3) l_nil))))) l_nil)))
    (b_cons (s_for (passes_of rfl) (i_range1 q_int T.n_range) (g_name 7 sc__law_due.nd) (b_one (s_if (t_ge (q_var 6) (q_len T.n_len (l_cons (q_var 5) l_nil))) (b_one (s_set 6 sc__law_due.nd (q_sub (q_var 6) (q_len T.n_len (l_cons (q_var 5) l_nil))))) b_nil)))
    (b_one (s_ret (q_call (ok__law_bits T) (hr.mono (by omega)) tk T.g__law_bits T.F__law_bits.kp T.b__law_bits (l_cons (q_sub_ix (q_var 5) (q_var 6)) (l_cons (q_var 1) l_nil)))))))) b_nil)
    (b_cons (s_set 8 sc__law_due.nd (q_call G hrG tk T.g__law_due T.F__law_due.kp T.b__law_due (l_cons (q_sub_ix (q_var 0) q_int) (l_cons (q_var 1) (l_cons (q_var 2) (l_cons (q_var 3) l_nil))))))
    (b_cons (s_if (t_eq hr.units (q_var 4) q_str) (b_one (s_ret (q_lc [("b", 9)] sc__law_due.nd (i_val (q_var 8)) (blkOk_by (N := ["knot", "wide", "some", "lots", "head", "row", "spot", "k", "one", "b"]) (sc := defScope s__law_due) (own := [("b", 9)]) (by decide +kernel)) (fun _ _ _ _ _ => (g_name 9 sc__law_due.nd)) (fun _ _ _ _ _ => c_nil) (fun _ _ _ _ _ => (q_sub q_int (q_var 9)))))) b_nil)
    (b_cons (s_if (t_in (q_var 4) (q_tup (l_cons q_str (l_cons q_str l_nil)))) (b_one (s_ret (q_ite (t_eq hr.units (q_var 4) q_str) (q_add (q_slice (q_var 8) (p_some q_int) p_none) (q_lst (l_cons q_int l_nil))) (q_add (q_lst (l_cons q_int l_nil)) (q_slice (q_var 8) p_none (p_some (q_neg q_int))))))) b_nil)
    (b_one (s_ret (q_call (ok__law_joined T) (hr.mono (by omega)) tk T.g__law_joined T.F__law_joined.kp T.b__law_joined (l_cons (q_var 4) (l_cons (q_var 8) (l_cons (q_call G hrG tk T.g__law_due T.F__law_due.kp T.b__law_due (l_cons (q_sub_ix (q_var 0) q_int) (l_cons (q_var 1) (l_cons (q_var 2) (l_cons (q_var 3) l_nil))))) l_nil))))))))))))
theorem ok__law_of (T : Txt K mg) : FnOk P w K mg base (L2.CX P w) 2 T.a__law_of T.d__law_of ["bag", "things"] (spM K mg 2 f__law_of) := fn_m T.F__law_of sc__law_of fun cdv A outer s H E hr => by
  have tk := takes_of (X := cxOf (L2.CX P w) P w K mg base ["bag", "things"] "_law_of" (defScope s__law_of) T.a__law_of cdv A outer s H E) (E := E) rfl rfl rfl rfl
  exact (b_one (s_ret (q_sub_ix (q_var 1) (q_call (ok__law_draw T) (hr.mono (by decide)) tk T.g__law_draw T.F__law_draw.kp T.b__law_draw (l_cons (q_var 0) (l_cons (q_len T.n_len (l_cons (q_var 1) l_nil)) l_nil))))))
theorem ok__law_leaf (T : Txt K mg) : FnOk P w K mg base (L2.CX P w) 3 T.a__law_leaf T.d__law_leaf ["bag", "some", "top"] (spM K mg 3 f__law_leaf) := fn_m T.F__law_leaf sc__law_leaf fun cdv A outer s H E hr => by
  have tk := takes_of (X := cxOf (L2.CX P w) P w K mg base ["bag", "some", "top"] "_law_leaf" (defScope s__law_leaf) T.a__law_leaf cdv A outer s H E) (E := E) rfl rfl rfl rfl
  exact (b_cons (s_if (t_w (tw_and (t_ne hr.units (q_var 1) (q_lst l_nil)) (tw_and1 (t_gt (q_call (ok__law_draw T) (hr.mono (by decide)) tk T.g__law_draw T.F__law_draw.kp T.b__law_draw (l_cons (q_var 0) (l_cons q_int l_nil))) q_int)))) (b_one (s_ret (q_tup (l_cons q_str (l_cons (q_call (ok__law_of T) (hr.mono (by decide)) tk T.g__law_of T.F__law_of.kp T.b__law_of (l_cons (q_var 0) (l_cons (q_var 1) l_nil))) l_nil))))) b_nil)
    (b_one (s_ret (q_tup (l_cons q_str (l_cons (q_call (ok__law_of T) (hr.mono (by decide)) tk T.g__law_of T.F__law_of.kp T.b__law_of (l_cons (q_var 0) (l_cons (q_lst (l_cons q_int (l_cons q_int (l_cons (q_sub (q_var 2) q_int) (l_cons (q_call (ok__law_draw T) (hr.mono (by decide)) tk T.g__law_draw T.F__law_draw.kp T.b__law_draw (l_cons (q_var 0) (l_cons (q_var 2) l_nil))) l_nil))))) l_nil))) l_nil))))))
theorem ok__law_tree (T : Txt K mg) : ∀ k : Nat, FnOk P w K mg base (L2.CX P w) (3 + k) T.a__law_tree T.d__law_tree ["bag", "room", "some", "lots", "top"] (spM K mg 5 (f__law_tree k))
  | 0 => no_fuel (ps := ["bag", "room", "some", "lots", "top"])
  | k + 1 => fn_m T.F__law_tree sc__law_tree fun cdv A outer s H E hr => by
    have tk := takes_of (X := cxOf (L2.CX P w) P w K mg base ["bag", "room", "some", "lots", "top", "way", "sign", "cut", "one"] "_law_tree" (defScope s__law_tree) T.a__law_tree cdv A outer s H E) (E := E) rfl rfl rfl rfl
    have G := ok__law_tree T k
    have hrG : Room (3 + k) _ := hr
    have hr : Room (3 + k) _ := hr
    exact (b_cons (s_set 5 sc__law_tree.nd (q_call (ok__law_draw T) (hr.mono (by omega)) tk T.g__law_draw T.F__law_draw.kp T.b__law_draw (l_cons (q_var 0) (l_cons q_int l_nil))))
    (b_cons (s_if (t_w (tw_or (t_lt (q_var 1) q_int) (tw_or1 (t_eq hr.units (q_var 5) q_int)))) (b_one (s_ret (q_call (ok__law_leaf T) (hr.mono (by omega)) tk T.g__law_leaf T.F__law_leaf.kp T.b__law_leaf (l_cons (q_var 0) (l_cons (q_var 2) (l_cons (q_var 4) l_nil)))))) b_nil)
    (b_cons (s_if (t_w (tw_and (t_eq hr.units (q_var 5) q_int) (tw_and1 (t_ne hr.units (q_var 3) (q_lst l_nil))))) (b_one (s_ret (q_tup (l_cons q_str (l_cons (q_sub_ix (q_call (ok__law_of T) (hr.mono (by omega)) tk T.g__law_of T.F__law_of.kp T.b__law_of (l_cons (q_var 0) (l_cons (q_var 3) l_nil))) q_int) (l_cons (q_call G hrG tk T.g__law_tree T.F__law_tree.kp T.b__law_tree (l_cons (q_var 0) (l_cons (q_sub (q_var 1) q_int) (l_cons (q_var 2) (l_cons (q_var 3) (l_cons (q_var 4) l_nil)))))) l_nil)))))) b_nil)
    (b_cons (s_if (t_in (q_var 5) (q_tup (l_cons q_int (l_cons q_int l_nil)))) (b_one (s_ret (q_tup (l_cons (q_call (ok__law_of T) (hr.mono (by omega)) tk T.g__law_of T.F__law_of.kp T.b__law_of (l_cons (q_var 0) (l_cons (q_lst (l_cons q_str (l_cons q_str (l_cons q_str l_nil)))) l_nil))) (l_cons (q_call G hrG tk T.g__law_tree T.F__law_tree.kp T.b__law_tree (l_cons (q_var 0) (l_cons (q_sub (q_var 1) q_int) (l_cons (q_var 2) (l_cons (q_var 3) (l_cons (q_var 4) l_nil)))))) l_nil))))) b_nil)
    (b_cons (s_par 6 7 sc__law_tree.nd (l_cons (q_call (ok__law_of T) (hr.mono (by omega)) tk T.g__law_of T.F__law_of.kp T.b__law_of (l_cons (q_var 0) (l_cons (q_lst (l_cons q_str (l_cons q_str (l_cons q_str (l_cons q_str (l_cons q_str (l_cons q_str (l_cons q_str (l_cons q_str (l_cons q_str l_nil)))))))))) l_nil))) (l_cons (q_add q_int (q_call (ok__law_draw T) (hr.mono (by omega)) tk T.g__law_draw T.F__law_draw.kp T.b__law_draw (l_cons (q_var 0) (l_cons (q_sub (q_var 1) q_int) l_nil)))) l_nil)))
    (b_cons (s_set 8 sc__law_tree.nd (q_call G hrG tk T.g__law_tree T.F__law_tree.kp T.b__law_tree (l_cons (q_var 0) (l_cons (q_var 7) (l_cons (q_var 2) (l_cons (q_var 3) (l_cons (q_var 4) l_nil)))))))
    (b_one (s_ret (q_tup (l_cons (q_var 6) (l_cons (q_var 8) (l_cons (q_call G hrG tk T.g__law_tree T.F__law_tree.kp T.b__law_tree (l_cons (q_var 0) (l_cons (q_sub (q_var 1) (q_var 7)) (l_cons (q_var 2) (l_cons (q_var 3) (l_cons (q_var 4) l_nil)))))) l_nil))))))))))))
theorem ok__law_chain (T : Txt K mg) : FnOk P w K mg base (L2.CX P w) 28 T.a__law_chain T.d__law_chain ["bag", "some", "lots", "top"] (spM K mg 4 f__law_chain) := fn_m T.F__law_chain sc__law_chain fun cdv A outer s H E hr => by
  have tk := takes_of (X := cxOf (L2.CX P w) P w K mg base ["bag", "some", "lots", "top", "signs", "found", "side", "k", "more"] "_law_chain" (defScope s__law_chain) T.a__law_chain cdv A outer s H E) (E := E) rfl rfl rfl rfl
  exact (b_cons (s_set 4 sc__law_chain.nd (q_call (ok__law_of T) (hr.mono (by decide)) tk T.g__law_of T.F__law_of.kp T.b__law_of (l_cons (q_var 0) (l_cons (q_lst (l_cons (q_lst (l_cons q_str (l_cons q_str l_nil))) (l_cons (q_lst (l_cons q_str (l_cons q_str (l_cons q_str (l_cons q_str (l_cons q_str l_nil)))))) (l_cons (q_lst (l_cons q_str (l_cons q_str (l_cons q_str (l_cons q_str (l_cons q_str (l_cons q_str (l_cons q_str l_nil)))))))) (l_cons (q_lst (l_cons q_str l_nil)) (l_cons (q_lst (l_cons q_str l_nil)) l_nil)))))) l_nil))))
    (b_cons (s_par 5 6 sc__law_chain.nd (l_cons (q_call (ok__law_leaf T) (hr.mono (by decide)) tk T.g__law_leaf T.F__law_leaf.kp T.b__law_leaf (l_cons (q_var 0) (l_cons (q_var 1) (l_cons (q_var 3) l_nil)))) (l_cons (q_call (ok__law_draw T) (hr.mono (by decide)) tk T.g__law_draw T.F__law_draw.kp T.b__law_draw (l_cons (q_var 0) (l_cons q_int l_nil))) l_nil)))
    (b_cons (s_for (passes_of rfl) (i_range1 (q_add q_int (q_call (ok__law_draw T) (hr.mono (by decide)) tk T.g__law_draw T.F__law_draw.kp T.b__law_draw (l_cons (q_var 0) (l_cons q_int l_nil)))) T.n_range) (g_name 7 sc__law_chain.nd) (b_cons (s_set 8 sc__law_chain.nd (q_call (ok__law_tree T 24) (hr.mono (by decide)) tk T.g__law_tree T.F__law_tree.kp T.b__law_tree (l_cons (q_var 0) (l_cons (q_add q_int (q_call (ok__law_draw T) (hr.mono (by decide)) tk T.g__law_draw T.F__law_draw.kp T.b__law_draw (l_cons (q_var 0) (l_cons q_int l_nil)))) (l_cons (q_var 1) (l_cons (q_var 2) (l_cons (q_var 3) l_nil)))))))
    (b_cons (s_set 5 sc__law_chain.nd (q_ite (t_eq hr.units (q_var 6) q_int) (q_tup (l_cons (q_call (ok__law_of T) (hr.mono (by decide)) tk T.g__law_of T.F__law_of.kp T.b__law_of (l_cons (q_var 0) (l_cons (q_var 4) l_nil))) (l_cons (q_var 5) (l_cons (q_var 8) l_nil)))) (q_tup (l_cons (q_call (ok__law_of T) (hr.mono (by decide)) tk T.g__law_of T.F__law_of.kp T.b__law_of (l_cons (q_var 0) (l_cons (q_var 4) l_nil))) (l_cons (q_var 8) (l_cons (q_var 5) l_nil))))))
    (b_one (s_if (t_eq hr.units (q_call (ok__law_draw T) (hr.mono (by decide)) tk T.g__law_draw T.F__law_draw.kp T.b__law_draw (l_cons (q_var 0) (l_cons q_int l_nil))) q_int) (b_one (s_set 5 sc__law_chain.nd (q_tup (l_cons (q_call (ok__law_of T) (hr.mono (by decide)) tk T.g__law_of T.F__law_of.kp T.b__law_of (l_cons (q_var 0) (l_cons (q_lst (l_cons q_str (l_cons q_str (l_cons q_str l_nil)))) l_nil))) (l_cons (q_var 5) l_nil))))) b_nil)))))
    (b_one (s_ret (q_var 5))))))
theorem ok__law_knots (T : Txt K mg) : FnOk P w K mg base (L2.CX P w) 29 T.a__law_knots T.d__law_knots ["bag", "some", "lots", "top"] (spM K mg 4 f__law_knots) := fn_m T.F__law_knots sc__law_knots fun cdv A outer s H E hr => by
  have tk := takes_of (X := cxOf (L2.CX P w) P w K mg base ["bag", "some", "lots", "top", "two", "found", "inner"] "_law_knots" (defScope s__law_knots) T.a__law_knots cdv A outer s H E) (E := E) rfl rfl rfl rfl
  exact (b_cons (s_set 4 sc__law_knots.nd (q_tup (l_cons (q_call (ok__law_of T) (hr.mono (by decide)) tk T.g__law_of T.F__law_of.kp T.b__law_of (l_cons (q_var 0) (l_cons (q_lst (l_cons q_str (l_cons q_str (l_cons q_str (l_cons q_str (l_cons q_str (l_cons q_str (l_cons q_str l_nil)))))))) l_nil))) (l_cons (q_tup (l_cons q_str (l_cons (q_sub_ix (q_var 1) q_int) l_nil))) (l_cons (q_tup (l_cons q_str (l_cons (q_sub_ix (q_var 1) q_int) l_nil))) l_nil)))))
    (b_cons (s_set 5 sc__law_knots.nd (q_lst (l_cons (q_var 4) (l_cons (q_tup (l_cons (q_call (ok__law_of T) (hr.mono (by decide)) tk T.g__law_of T.F__law_of.kp T.b__law_of (l_cons (q_var 0) (l_cons (q_lst (l_cons q_str (l_cons q_str (l_cons q_str l_nil)))) l_nil))) (l_cons (q_call (ok__law_of T) (hr.mono (by decide)) tk T.g__law_of T.F__law_of.kp T.b__law_of (l_cons (q_var 0) (l_cons (q_lst (l_cons (q_var 4) (l_cons (q_tup (l_cons q_str (l_cons (q_sub_ix (q_var 1) q_int) l_nil))) l_nil))) l_nil))) l_nil))) l_nil))))
    (b_cons (s_if (t_ne hr.units (q_var 2) (q_lst l_nil)) (b_cons (s_set 6 sc__law_knots.nd (q_tup (l_cons q_str (l_cons (q_sub_ix (q_call (ok__law_of T) (hr.mono (by decide)) tk T.g__law_of T.F__law_of.kp T.b__law_of (l_cons (q_var 0) (l_cons (q_var 2) l_nil))) q_int) (l_cons (q_call (ok__law_of T) (hr.mono (by decide)) tk T.g__law_of T.F__law_of.kp T.b__law_of (l_cons (q_var 0) (l_cons (q_lst (l_cons (q_var 4) (l_cons (q_tup (l_cons q_str (l_cons (q_sub_ix (q_var 1) q_int) l_nil))) l_nil))) l_nil))) l_nil)))))
    (b_one (s_expr (q_append (q_var 5) (q_tup (l_cons q_str (l_cons (q_sub_ix (q_call (ok__law_of T) (hr.mono (by decide)) tk T.g__law_of T.F__law_of.kp T.b__law_of (l_cons (q_var 0) (l_cons (q_var 2) l_nil))) q_int) (l_cons (q_var 6) l_nil)))))))) b_nil)
    (b_cons (s_expr (q_append (q_var 5) (q_call (ok__law_tree T 24) (hr.mono (by decide)) tk T.g__law_tree T.F__law_tree.kp T.b__law_tree (l_cons (q_var 0) (l_cons (q_call (ok__law_of T) (hr.mono (by decide)) tk T.g__law_of T.F__law_of.kp T.b__law_of (l_cons (q_var 0) (l_cons (q_lst (l_cons q_int (l_cons q_int (l_cons q_int (l_cons q_int l_nil))))) l_nil))) (l_cons (q_var 1) (l_cons (q_var 2) (l_cons (q_var 3) l_nil))))))))
    (b_one (s_ret (q_add (q_var 5) (q_lst (l_cons (q_call (ok__law_chain T) (hr.mono (by decide)) tk T.g__law_chain T.F__law_chain.kp T.b__law_chain (l_cons (q_var 0) (l_cons (q_var 1) (l_cons (q_var 2) (l_cons (q_var 3) l_nil))))) l_nil)))))))))
theorem ok__law_own_words (T : Txt K mg) : FnOk P w K mg base (L2.CX P w) 1 T.a__law_own_words T.d__law_own_words [] (spM K mg 0 f__law_own_words) := fn_m T.F__law_own_words sc__law_own_words fun cdv A outer s H E hr => by
  have tk := takes_of (X := cxOf (L2.CX P w) P w K mg base [] "_law_own_words" (defScope s__law_own_words) T.a__law_own_words cdv A outer s H E) (E := E) rfl rfl rfl rfl
  exact (b_one (s_ret (q_lst (l_cons q_str (l_cons q_str (l_cons q_str (l_cons q_str (l_cons q_str (l_cons q_str (l_cons q_str (l_cons q_str (l_cons q_str (l_cons q_str (l_cons q_str (l_cons q_str l_nil)))))))))))))))
theorem ok__law_is_name (T : Txt K mg) : FnOk P w K mg base (L2.CX P w) 2 T.a__law_is_name T.d__law_is_name ["piece"] (spM K mg 1 f__law_is_name) := fn_m T.F__law_is_name sc__law_is_name fun cdv A outer s H E hr => by
  have tk := takes_of (X := cxOf (L2.CX P w) P w K mg base ["piece", "sign"] "_law_is_name" (defScope s__law_is_name) T.a__law_is_name cdv A outer s H E) (E := E) rfl rfl rfl rfl
  exact (b_cons (s_if (t_w (tw_or (t_not (t_lele q_int (q_len T.n_len (l_cons (q_var 0) l_nil)) q_int)) (tw_or (t_in (q_var 0) (q_call0 (ok__law_own_words T) (hr.mono (by decide)) tk T.g__law_own_words T.F__law_own_words.kp T.b__law_own_words)) (tw_or1 (t_notin (q_sub_ix (q_var 0) q_int) q_str))))) (b_one (s_ret q_bl)) b_nil)
    (b_cons (s_if (t_ne hr.units (q_lc [("sign", 1)] sc__law_is_name.nd (i_val (q_var 0)) (blkOk_by (N := ["piece", "sign"]) (sc := defScope s__law_is_name) (own := [("sign", 1)]) (by decide +kernel)) (fun _ _ _ _ _ => (g_name 1 sc__law_is_name.nd)) (fun _ _ _ _ _ => (c_one (t_notin (q_var 1) q_str))) (fun _ _ _ _ _ => (q_var 1))) (q_lst l_nil)) (b_one (s_ret q_bl)) b_nil)
    (b_one (s_ret (q_or (q_ne hr.units (q_sub_ix (q_var 0) q_int) q_str) (q_or (q_eq hr.units (q_len T.n_len (l_cons (q_var 0) l_nil)) q_int) (q_one (q_ne hr.units (q_lc [("sign", 1)] sc__law_is_name.nd (i_val (q_slice (q_var 0) (p_some q_int) p_none)) (blkOk_by (N := ["piece", "sign"]) (sc := defScope s__law_is_name) (own := [("sign", 1)]) (by decide +kernel)) (fun _ _ _ _ _ => (g_name 1 sc__law_is_name.nd)) (fun _ _ _ _ _ => (c_one (t_notin (q_var 1) q_str))) (fun _ _ _ _ _ => (q_var 1))) (q_lst l_nil)))))))))
theorem ok__law_names (T : Txt K mg) : FnOk P w K mg base (L2.CX P w) 3 T.a__law_names T.d__law_names ["bag", "many"] (spM K mg 2 f__law_names) := fn_m T.F__law_names sc__law_names fun cdv A outer s H E hr => by
  have tk := takes_of (X := cxOf (L2.CX P w) P w K mg base ["bag", "many", "stem", "cut", "pool", "letter", "one", "k"] "_law_names" (defScope s__law_names) T.a__law_names cdv A outer s H E) (E := E) rfl rfl rfl rfl
  exact (b_cons (s_set 2 sc__law_names.nd (q_call (ok__law_of T) (hr.mono (by decide)) tk T.g__law_of T.F__law_of.kp T.b__law_of (l_cons (q_var 0) (l_cons (q_lst (l_cons q_str (l_cons q_str (l_cons q_str (l_cons q_str (l_cons q_str (l_cons q_str (l_cons q_str (l_cons q_str (l_cons q_str (l_cons q_str (l_cons q_str (l_cons q_str l_nil))))))))))))) l_nil))))
    (b_cons (s_if (t_eq hr.units (q_var 2) q_str) (b_one (s_set 2 sc__law_names.nd (q_join q_str (q_lc [("k", 7)] sc__law_names.nd (i_range1 (q_add q_int (q_call (ok__law_draw T) (hr.mono (by decide)) tk T.g__law_draw T.F__law_draw.kp T.b__law_draw (l_cons (q_var 0) (l_cons q_int l_nil)))) T.n_range) (blkOk_by (N := ["bag", "many", "stem", "cut", "pool", "letter", "one", "k"]) (sc := defScope s__law_names) (own := [("k", 7)]) (by decide +kernel)) (fun _ _ _ _ _ => (g_name 7 sc__law_names.nd)) (fun _ _ _ _ _ => c_nil) (fun _ _ _ _ _ => (q_call (ok__law_of T) (hr.mono (by decide)) takes0 T.g__law_of T.F__law_of.kp T.b__law_of (l_cons (q_var 0) (l_cons q_str l_nil)))))))) b_nil)
    (b_cons (s_asg (g_tup (gs_cons (g_name 3 sc__law_names.nd) (gs_cons (g_name 4 sc__law_names.nd) gs_nil))) (q_tup (l_cons (q_call (ok__law_draw T) (hr.mono (by decide)) tk T.g__law_draw T.F__law_draw.kp T.b__law_draw (l_cons (q_var 0) (l_cons (q_add (q_len T.n_len (l_cons (q_var 2) l_nil)) q_int) l_nil))) (l_cons (q_lst (l_cons q_str (l_cons q_str (l_cons q_str (l_cons q_str (l_cons q_str (l_cons q_str (l_cons q_str (l_cons q_str (l_cons q_str l_nil)))))))))) l_nil))))
    (b_cons (s_for (passes_of rfl) (i_val q_str) (g_name 5 sc__law_names.nd) (b_cons (s_set 6 sc__law_names.nd (q_add (q_add (q_slice (q_var 2) p_none (p_some (q_var 3))) (q_var 5)) (q_slice (q_var 2) (p_some (q_var 3)) p_none)))
    (b_one (s_if (t_w (tw_and (t_val (q_call (ok__law_is_name T) (hr.mono (by decide)) tk T.g__law_is_name T.F__law_is_name.kp T.b__law_is_name (l_cons (q_var 6) l_nil))) (tw_and1 (t_notin (q_var 6) (q_var 4))))) (b_one (s_expr (q_append (q_var 4) (q_var 6)))) b_nil))))
    (b_cons (s_for (passes_of rfl) (i_val q_str) (g_name 5 sc__law_names.nd) (b_one (s_if (t_notin (q_var 5) (q_var 4)) (b_one (s_expr (q_append (q_var 4) (q_var 5)))) b_nil)))
    (b_one (s_ret (q_lc [("k", 7)] sc__law_names.nd (i_range1 (q_var 1) T.n_range) (blkOk_by (N := ["bag", "many", "stem", "cut", "pool", "letter", "one", "k"]) (sc := defScope s__law_names) (own := [("k", 7)]) (by decide +kernel)) (fun _ _ _ _ _ => (g_name 7 sc__law_names.nd)) (fun _ _ _ _ _ => c_nil) (fun _ _ _ _ _ => (q_popAt (q_var 4) (q_call (ok__law_draw T) (hr.mono (by decide)) takes0 T.g__law_draw T.F__law_draw.kp T.b__law_draw (l_cons (q_var 0) (l_cons (q_len T.n_len (l_cons (q_var 4) l_nil)) l_nil)))))))))))))
theorem ok__law_pairs (T : Txt K mg) : FnOk P w K mg base (L2.CX P w) 3 T.a__law_pairs T.d__law_pairs ["bag", "wide"] (spM K mg 2 f__law_pairs) := fn_m T.F__law_pairs sc__law_pairs fun cdv A outer s H E hr => by
  have tk := takes_of (X := cxOf (L2.CX P w) P w K mg base ["bag", "wide", "top", "ends", "k"] "_law_pairs" (defScope s__law_pairs) T.a__law_pairs cdv A outer s H E) (E := E) rfl rfl rfl rfl
  exact (b_cons (s_set 2 sc__law_pairs.nd (q_shl q_int (q_var 1)))
    (b_cons (s_if (t_w (tw_or (t_lt (q_var 1) q_int) (tw_or1 (t_w (tw_and (t_eq hr.units (q_var 1) q_int) (tw_and1 (t_eq hr.units (q_call (ok__law_draw T) (hr.mono (by decide)) tk T.g__law_draw T.F__law_draw.kp T.b__law_draw (l_cons (q_var 0) (l_cons q_int l_nil))) q_int))))))) (b_one (s_ret (q_lc [("k", 4)] sc__law_pairs.nd (i_range1 (q_mul (q_var 2) (q_var 2)) T.n_range) (blkOk_by (N := ["bag", "wide", "top", "ends", "k"]) (sc := defScope s__law_pairs) (own := [("k", 4)]) (by decide +kernel)) (fun _ _ _ _ _ => (g_name 4 sc__law_pairs.nd)) (fun _ _ _ _ _ => c_nil) (fun _ _ _ _ _ => (q_tup (l_cons (q_fdiv (q_var 4) (q_var 2)) (l_cons (q_sub (q_var 4) (q_mul (q_fdiv (q_var 4) (q_var 2)) (q_var 2))) l_nil))))))) b_nil)
    (b_cons (s_set 3 sc__law_pairs.nd (q_lst (l_cons q_int (l_cons q_int (l_cons (q_sub (q_fdiv (q_var 2) q_int) q_int) (l_cons (q_fdiv (q_var 2) q_int) (l_cons (q_sub (q_var 2) q_int) l_nil)))))))
    (b_one (s_ret (q_lc [("k", 4)] sc__law_pairs.nd (i_range1 q_int T.n_range) (blkOk_by (N := ["bag", "wide", "top", "ends", "k"]) (sc := defScope s__law_pairs) (own := [("k", 4)]) (by decide +kernel)) (fun _ _ _ _ _ => (g_name 4 sc__law_pairs.nd)) (fun _ _ _ _ _ => c_nil) (fun _ _ _ _ _ => (q_tup (l_cons (q_call (ok__law_of T) (hr.mono (by decide)) takes0 T.g__law_of T.F__law_of.kp T.b__law_of (l_cons (q_var 0) (l_cons (q_add (q_var 3) (q_lst (l_cons (q_call (ok__law_draw T) (hr.mono (by decide)) takes0 T.g__law_draw T.F__law_draw.kp T.b__law_draw (l_cons (q_var 0) (l_cons (q_var 2) l_nil))) l_nil))) l_nil))) (l_cons (q_call (ok__law_of T) (hr.mono (by decide)) takes0 T.g__law_of T.F__law_of.kp T.b__law_of (l_cons (q_var 0) (l_cons (q_add (q_var 3) (q_lst (l_cons (q_call (ok__law_draw T) (hr.mono (by decide)) takes0 T.g__law_draw T.F__law_draw.kp T.b__law_draw (l_cons (q_var 0) (l_cons (q_var 2) l_nil))) l_nil))) l_nil))) l_nil))))))))))
theorem ok_law (T : Txt K mg) : FnOk P w K mg base (L2.CX P w) 67 T.a_law T.d_law ["script"] (spM K mg 1 f_law) := fn_m T.F_law sc_law fun cdv A outer s H E hr => by
  have tk := takes_of (X := cxOf (L2.CX P w) P w K mg base ["script", "bag", "wide", "names", "some", "top", "lots", "k", "far", "knots", "pairs", "table", "pair", "knot", "turn", "large", "x", "y", "here", "due", "again"] "law" (defScope s_law) T.a_law cdv A outer s H E) (E := E) rfl rfl rfl rfl
  exact (b_cons (s_set 1 sc_law.nd (q_call (ok__law_bag T) (hr.mono (by decide)) tk T.g__law_bag T.F__law_bag.kp T.b__law_bag (l_cons (q_var 0) l_nil)))
    (b_cons (s_asg (g_tup (gs_cons (g_name 2 sc_law.nd) (gs_cons (g_name 3 sc_law.nd) gs_nil))) (q_tup (l_cons (q_call (ok__law_of T) (hr.mono (by decide)) tk T.g__law_of T.F__law_of.kp T.b__law_of (l_cons (q_var 1) (l_cons (q_lst (l_cons q_int (l_cons q_int (l_cons q_int (l_cons q_int (l_cons q_int (l_cons q_int l_nil))))))) l_nil))) (l_cons (q_call (ok__law_names T) (hr.mono (by decide)) tk T.g__law_names T.F__law_names.kp T.b__law_names (l_cons (q_var 1) (l_cons q_int l_nil))) l_nil))))
    (b_cons (s_asg (g_tup (gs_cons (g_name 4 sc_law.nd) (gs_cons (g_name 5 sc_law.nd) (gs_cons (g_name 6 sc_law.nd) gs_nil)))) (q_tup (l_cons (q_slice (q_var 3) p_none (p_some q_int)) (l_cons (q_shl q_int (q_var 2)) (l_cons (q_lst l_nil) l_nil)))))
    (b_cons (s_for (passes_of rfl) (i_range1 (q_call (ok__law_draw T) (hr.mono (by decide)) tk T.g__law_draw T.F__law_draw.kp T.b__law_draw (l_cons (q_var 1) (l_cons q_int l_nil))) T.n_range) (g_name 7 sc_law.nd) (b_one (s_expr (q_append (q_var 6) (q_tup (l_cons (q_sub_ix (q_var 3) (q_add q_int (q_var 7))) (l_cons (q_call (ok__law_of T) (hr.mono (by decide)) tk T.g__law_of T.F__law_of.kp T.b__law_of (l_cons (q_var 1) (l_cons (q_lst (l_cons q_int (l_cons q_int (l_cons q_int l_nil)))) l_nil))) l_nil)))))))
    (b_cons (s_set 8 sc_law.nd (q_call (ok__law_of T) (hr.mono (by decide)) tk T.g__law_of T.F__law_of.kp T.b__law_of (l_cons (q_var 1) (l_cons (q_lst (l_cons (q_var 5) (l_cons (q_var 5) (l_cons (q_var 5) (l_cons (q_add (q_mul q_int (q_var 5)) q_int) (l_cons (q_pow q_int q_int) l_nil)))))) l_nil))))
    (b_cons (s_par 9 10 sc_law.nd (l_cons (q_call (ok__law_knots T) (hr.mono (by decide)) tk T.g__law_knots T.F__law_knots.kp T.b__law_knots (l_cons (q_var 1) (l_cons (q_var 4) (l_cons (q_var 6) (l_cons (q_var 8) l_nil))))) (l_cons (q_call (ok__law_pairs T) (hr.mono (by decide)) tk T.g__law_pairs T.F__law_pairs.kp T.b__law_pairs (l_cons (q_var 1) (l_cons (q_var 2) l_nil))) l_nil)))
    (b_cons (s_if (t_gt (q_var 8) (q_var 5)) (b_one (s_lc 10 [("x", 16), ("y", 17)] sc_law.nd (i_val (q_slice (q_var 10) p_none (p_some q_int))) (blkOk_by (N := ["script", "bag", "wide", "names", "some", "top", "lots", "k", "far", "knots", "pairs", "table", "pair", "knot", "turn", "large", "x", "y", "here", "due", "again"]) (sc := defScope s_law) (own := [("x", 16), ("y", 17)]) (by decide +kernel)) (fun _ _ _ _ _ => (g_tup (gs_cons (g_name 16 sc_law.nd) (gs_cons (g_name 17 sc_law.nd) gs_nil)))) (fun _ _ _ _ _ => c_nil) (fun _ _ _ _ _ => (q_tup (l_cons (q_call (ok__law_draw T) (hr.mono (by decide)) takes0 T.g__law_draw T.F__law_draw.kp T.b__law_draw (l_cons (q_var 1) (l_cons (q_var 8) l_nil))) (l_cons (q_add (q_var 16) (q_mul (q_var 5) (q_call (ok__law_draw T) (hr.mono (by decide)) takes0 T.g__law_draw T.F__law_draw.kp T.b__law_draw (l_cons (q_var 1) (l_cons q_int l_nil))))) l_nil)))) (sw_true rfl rfl rfl (by decide +kernel)))) b_nil)
    (b_cons (s_set 11 sc_law.nd q_dnew)
    (b_cons (s_for (passes_of rfl) (i_val (q_var 6)) (g_name 12 sc_law.nd) (b_one (s_putD (hu_of hr) (q_var 11) (q_sub_ix (q_var 12) q_int) (q_lc [("k", 7)] sc_law.nd (i_range1 (q_sub_ix (q_var 12) q_int) T.n_range) (blkOk_by (N := ["script", "bag", "wide", "names", "some", "top", "lots", "k", "far", "knots", "pairs", "table", "pair", "knot", "turn", "large", "x", "y", "here", "due", "again"]) (sc := defScope s_law) (own := [("k", 7)]) (by decide +kernel)) (fun _ _ _ _ _ => (g_name 7 sc_law.nd)) (fun _ _ _ _ _ => c_nil) (fun _ _ _ _ _ => (q_call (ok__law_draw T) (hr.mono (by decide)) takes0 T.g__law_draw T.F__law_draw.kp T.b__law_draw (l_cons (q_var 1) (l_cons (q_var 8) l_nil))))))))
    (b_cons (s_for (passes_of rfl) (i_val (q_var 9)) (g_name 13 sc_law.nd) (b_cons (s_set 14 sc_law.nd (q_call (ok__law_draw T) (hr.mono (by decide)) tk T.g__law_draw T.F__law_draw.kp T.b__law_draw (l_cons (q_var 1) (l_cons q_int l_nil))))
    (b_cons (s_set 15 sc_law.nd (q_or (q_eq hr.units (q_var 13) (q_sub_ix (q_var 9) (q_neg q_int))) (q_one (q_eq hr.units (q_var 13) (q_sub_ix (q_var 9) (q_neg q_int))))))
    (b_cons (s_for (passes_of rfl) (i_val (q_ite (t_val (q_var 15)) (q_slice (q_var 10) p_none (p_some q_int)) (q_var 10))) (g_tup (gs_cons (g_name 16 sc_law.nd) (gs_cons (g_name 17 sc_law.nd) gs_nil))) (b_cons (s_set 18 sc_law.nd (q_disp (d_cons (q_sub_ix (q_var 4) q_int) (q_var 16) (d_cons (q_sub_ix (q_var 4) q_int) (q_var 17) d_nil))))
    (b_cons (s_set 19 sc_law.nd (q_call (ok__law_number T) (hr.mono (by decide)) tk T.g__law_number T.F__law_number.kp T.b__law_number (l_cons (q_call (ok__law_due T 64) (hr.mono (by decide)) tk T.g__law_due T.F__law_due.kp T.b__law_due (l_cons (q_var 13) (l_cons (q_var 2) (l_cons (q_var 18) (l_cons (q_var 11) l_nil))))) l_nil)))
    (b_one (s_if (t_not (t_val (q_call (ok__law_like T 8) (hr.mono (by decide)) tk T.g__law_like T.F__law_like.kp T.b__law_like (l_cons (q_call (ok__law_asked T) (hr.mono (by decide)) tk T.g__law_asked T.F__law_asked.kp T.b__law_asked (l_cons (q_var 13) (l_cons (q_var 2) (l_cons (q_var 18) (l_cons (q_var 11) (l_cons (q_var 3) (l_cons (q_var 14) l_nil))))))) (l_cons (q_var 19) l_nil))))) (b_one (s_ret q_bl)) b_nil)))))
    (b_cons (s_set 18 sc_law.nd (q_disp (d_cons (q_sub_ix (q_var 4) q_int) (q_sub_ix (q_sub_ix (q_var 10) q_int) q_int) (d_cons (q_sub_ix (q_var 4) q_int) (q_sub_ix (q_sub_ix (q_var 10) q_int) q_int) d_nil))))
    (b_cons (s_lc 20 [("k", 7)] sc_law.nd (i_range1 q_int T.n_range) (blkOk_by (N := ["script", "bag", "wide", "names", "some", "top", "lots", "k", "far", "knots", "pairs", "table", "pair", "knot", "turn", "large", "x", "y", "here", "due", "again"]) (sc := defScope s_law) (own := [("k", 7)]) (by decide +kernel)) (fun _ _ _ _ _ => (g_name 7 sc_law.nd)) (fun _ _ _ _ _ => c_nil) (fun _ _ _ _ _ => (q_call (ok__law_asked T) (hr.mono (by decide)) takes0 T.g__law_asked T.F__law_asked.kp T.b__law_asked (l_cons (q_var 13) (l_cons (q_var 2) (l_cons (q_var 18) (l_cons (q_var 11) (l_cons (q_var 3) (l_cons (q_var 7) l_nil)))))))) (sw_true rfl rfl rfl (by decide +kernel)))
    (b_one (s_if (t_not (t_val (q_call (ok__law_like T 8) (hr.mono (by decide)) tk T.g__law_like T.F__law_like.kp T.b__law_like (l_cons (q_var 20) (l_cons (q_mul (q_lst (l_cons (q_call (ok__law_number T) (hr.mono (by decide)) tk T.g__law_number T.F__law_number.kp T.b__law_number (l_cons (q_call (ok__law_due T 64) (hr.mono (by decide)) tk T.g__law_due T.F__law_due.kp T.b__law_due (l_cons (q_var 13) (l_cons (q_var 2) (l_cons (q_var 18) (l_cons (q_var 11) l_nil))))) l_nil)) l_nil)) q_int) l_nil))))) (b_one (s_ret q_bl)) b_nil))))))))
    (b_one (s_ret (q_call (ok__law_any_lengths_so T) (hr.mono (by decide)) tk T.g__law_any_lengths_so T.F__law_any_lengths_so.kp T.b__law_any_lengths_so (l_cons (q_var 1) l_nil))))))))))))))
end
end K03

namespace K03
open PySem PySem.Spec PyProof.Rows L2 Mo
def bitsL (x : Int) (w : Nat) : List Int := (List.range w).map fun j => x / 2 ^ j % 2
def numL : List Int → Int
  | [] => 0
  | b :: r => b + 2 * numL r
def sumL : List Int → List Int → Int → List Int × Int
  | a :: x, b :: y, c => (Builtin.bitXor (Builtin.bitXor a b) c :: (sumL x y (Builtin.bitOr (Builtin.bitAnd a b) (Builtin.bitAnd c (Builtin.bitXor a b)))).1, (sumL x y (Builtin.bitOr (Builtin.bitAnd a b) (Builtin.bitAnd c (Builtin.bitXor a b)))).2)
  | [], _, c => ([], c)
  | _ :: _, [], c => ([], c)
def negL (x : List Int) : List Int := x.map fun b => 1 - b
inductive Op | add | sub | and | or | xor | eq | lt
deriving DecidableEq
def Op.s : Op → Str
  | .add => Str.ofString "+"
  | .sub => Str.ofString "-"
  | .and => Str.ofString "&"
  | .or => Str.ofString "|"
  | .xor => Str.ofString "^"
  | .eq => Str.ofString "=="
  | .lt => Str.ofString "<"
def Op.w (o : Op) (x y z : Int) : Int := match o with
  | .add => (x + y) % z
  | .sub => (x - y) % z
  | .and => Builtin.bitAnd x y
  | .or => Builtin.bitOr x y
  | .xor => Builtin.bitXor x y
  | .eq => if x = y then 1 else 0
  | .lt => if x < y then 1 else 0
def Op.j (o : Op) (x y : List Int) : List Int := match o with
  | .add => (sumL x y 0).1
  | .sub => (sumL x (negL y) 1).1
  | .and => List.zipWith Builtin.bitAnd x y
  | .or => List.zipWith (fun a b => if a + b > 0 then 1 else 0) x y
  | .xor => List.zipWith (fun a b => if a ≠ b then 1 else 0) x y
  | .eq => (if x = y then 1 else 0) :: (y.drop 1).map fun _ => 0
  | .lt => (if (sumL x (negL y) 1).2 = 0 then 1 else 0) :: (y.drop 1).map fun _ => 0
theorem bits_succ (x : Int) (w : Nat) : bitsL x (w + 1) = x % 2 :: bitsL (x / 2) w := by
  unfold bitsL
  rw [List.range_succ_eq_map, List.map_cons, List.map_map]
  simp only [Int.pow_zero, Int.ediv_one, List.cons.injEq, true_and]
  refine List.map_congr_left fun j _ => ?_
  show x / 2 ^ (j + 1) % 2 = x / 2 / 2 ^ j % 2
  rw [Int.pow_succ, Int.mul_comm, Int.ediv_ediv_of_nonneg (by decide)]
def B01 (l : List Int) : Prop := ∀ b ∈ l, b = 0 ∨ b = 1
theorem B01.tail {b : Int} {l : List Int} (h : B01 (b :: l)) : (b = 0 ∨ b = 1) ∧ B01 l := ⟨h b (by simp), fun c hc => h c (by simp [hc])⟩
theorem B01.cons {b : Int} {l : List Int} (h1 : b = 0 ∨ b = 1) (h : B01 l) : B01 (b :: l) := fun c hc => by
  rcases List.mem_cons.mp hc with rfl | hc
  · exact h1
  · exact h c hc
theorem numL_bd {l : List Int} (h : B01 l) : 0 ≤ numL l ∧ numL l < 2 ^ l.length := by
  induction l with
  | nil => simp [numL]
  | cons b l ih =>
    have := ih h.tail.2
    have := h.tail.1
    simp only [numL, List.length_cons, Int.pow_succ]
    omega
theorem bits_num {l : List Int} (h : B01 l) : bitsL (numL l) l.length = l := by
  induction l with
  | nil => rfl
  | cons b l ih =>
    have i := ih h.tail.2
    have := h.tail.1
    rw [List.length_cons, bits_succ]
    have e1 : numL (b :: l) % 2 = b := by simp only [numL]; omega
    have e2 : numL (b :: l) / 2 = numL l := by simp only [numL]; omega
    rw [e1, e2, i]
theorem sum_ok : ∀ (x y : List Int) (c : Int), B01 x → B01 y → x.length = y.length → (c = 0 ∨ c = 1) → B01 (sumL x y c).1 ∧ (sumL x y c).1.length = x.length ∧ ((sumL x y c).2 = 0 ∨ (sumL x y c).2 = 1) ∧ numL (sumL x y c).1 + 2 ^ x.length * (sumL x y c).2 = numL x + numL y + c
  | [], [], c, _, _, _, hc => by simp [sumL, numL, hc, B01]
  | [], _ :: _, _, _, _, e, _ => by simp at e
  | _ :: _, [], _, _, _, e, _ => by simp at e
  | a :: x, b :: y, c, hx, hy, e, hc => by
    have e' : x.length = y.length := by simpa using e
    have ha := hx.tail.1
    have hb := hy.tail.1
    have key : ∀ (s k : Int), Builtin.bitXor (Builtin.bitXor a b) c = s → Builtin.bitOr (Builtin.bitAnd a b) (Builtin.bitAnd c (Builtin.bitXor a b)) = k → (s = 0 ∨ s = 1) → (k = 0 ∨ k = 1) → s + 2 * k = a + b + c → B01 (sumL (a :: x) (b :: y) c).1 ∧ (sumL (a :: x) (b :: y) c).1.length = (a :: x).length ∧ ((sumL (a :: x) (b :: y) c).2 = 0 ∨ (sumL (a :: x) (b :: y) c).2 = 1) ∧ numL (sumL (a :: x) (b :: y) c).1 + 2 ^ (a :: x).length * (sumL (a :: x) (b :: y) c).2 = numL (a :: x) + numL (b :: y) + c := by
      intro s k es ek hs hk q
      obtain ⟨i1, i2, i3, i4⟩ := sum_ok x y k hx.tail.2 hy.tail.2 e' hk
      simp only [sumL, es, ek]
      refine ⟨B01.cons hs i1, by simp [i2], i3, ?_⟩
      simp only [numL, List.length_cons, Int.pow_succ]
      have : 2 ^ x.length * 2 * (sumL x y k).2 = 2 * (2 ^ x.length * (sumL x y k).2) := by rw [Int.mul_comm (2 ^ x.length) 2, Int.mul_assoc]
      omega
    rcases ha with rfl | rfl <;> rcases hb with rfl | rfl <;> rcases hc with rfl | rfl <;> exact key _ _ rfl rfl (by decide) (by decide) (by decide)
theorem neg_ok : ∀ (x : List Int), B01 x → B01 (negL x) ∧ (negL x).length = x.length ∧ numL (negL x) = 2 ^ x.length - 1 - numL x
  | [], _ => by simp [negL, numL, B01]
  | b :: x, h => by
    obtain ⟨i1, i2, i3⟩ := neg_ok x h.tail.2
    have hb := h.tail.1
    unfold negL at *
    refine ⟨B01.cons (show 1 - b = 0 ∨ 1 - b = 1 by omega) i1, by simp, ?_⟩
    simp only [List.map_cons, numL, i3, List.length_cons, Int.pow_succ]
    omega
theorem and_nn {x y : Int} (hx : 0 ≤ x) (hy : 0 ≤ y) : Builtin.bitAnd x y = ((x.toNat &&& y.toNat : Nat) : Int) := by
  simp [Builtin.bitAnd, hx, hy]
theorem or_nn {x y : Int} (hx : 0 ≤ x) (hy : 0 ≤ y) : Builtin.bitOr x y = ((x.toNat ||| y.toNat : Nat) : Int) := by
  have hx' : ¬ 0 ≤ Builtin.bitNot x := by simp [Builtin.bitNot]; omega
  have hy' : ¬ 0 ≤ Builtin.bitNot y := by simp [Builtin.bitNot]; omega
  have nn : ∀ z : Int, Builtin.bitNot (Builtin.bitNot z) = z := fun z => by simp only [Builtin.bitNot]; omega
  simp [Builtin.bitOr, Builtin.bitAnd, hx', hy', nn]
theorem and_rec {a b n m : Nat} (ha : a < 2) (hb : b < 2) : (a + 2 * n) &&& (b + 2 * m) = (a &&& b) + 2 * (n &&& m) := by
  have h1 : ((a + 2 * n) &&& (b + 2 * m)) / 2 = n &&& m := by rw [Nat.and_div_two]; congr 1 <;> omega
  have h2 : ((a + 2 * n) &&& (b + 2 * m)) % 2 = a &&& b := by
    have := Nat.and_mod_two_pow (a := a + 2 * n) (b := b + 2 * m) (n := 1)
    simp only [Nat.pow_one] at this
    rw [this]; congr 1 <;> omega
  omega
theorem or_rec {a b n m : Nat} (ha : a < 2) (hb : b < 2) : (a + 2 * n) ||| (b + 2 * m) = (a ||| b) + 2 * (n ||| m) := by
  have h1 : ((a + 2 * n) ||| (b + 2 * m)) / 2 = n ||| m := by rw [Nat.or_div_two]; congr 1 <;> omega
  have h2 : ((a + 2 * n) ||| (b + 2 * m)) % 2 = a ||| b := by
    have := Nat.or_mod_two_pow (a := a + 2 * n) (b := b + 2 * m) (n := 1)
    simp only [Nat.pow_one] at this
    rw [this]; congr 1 <;> omega
  omega
theorem bw_ok : ∀ (x y : List Int), B01 x → B01 y → x.length = y.length →
    (B01 (List.zipWith Builtin.bitAnd x y) ∧ numL (List.zipWith Builtin.bitAnd x y) = ((numL x).toNat &&& (numL y).toNat : Nat)) ∧
    (B01 (List.zipWith (fun a b => if a + b > 0 then (1 : Int) else 0) x y) ∧ numL (List.zipWith (fun a b => if a + b > 0 then (1 : Int) else 0) x y) = ((numL x).toNat ||| (numL y).toNat : Nat)) ∧
    (B01 (List.zipWith (fun a b => if a ≠ b then (1 : Int) else 0) x y) ∧ numL (List.zipWith (fun a b => if a ≠ b then (1 : Int) else 0) x y) = numL (List.zipWith (fun a b => if a + b > 0 then (1 : Int) else 0) x y) - numL (List.zipWith Builtin.bitAnd x y))
  | [], [], _, _, _ => by simp [numL, B01]
  | [], _ :: _, _, _, e => by simp at e
  | _ :: _, [], _, _, e => by simp at e
  | a :: x, b :: y, hx, hy, e => by
    obtain ⟨⟨a1, a2⟩, ⟨o1, o2⟩, x1, x2⟩ := bw_ok x y hx.tail.2 hy.tail.2 (by simpa using e)
    have hn := (numL_bd hx.tail.2).1
    have hm := (numL_bd hy.tail.2).1
    have ha := hx.tail.1
    have hb := hy.tail.1
    have tx : (numL (a :: x)).toNat = a.toNat + 2 * (numL x).toNat := by simp only [numL]; omega
    have ty : (numL (b :: y)).toNat = b.toNat + 2 * (numL y).toNat := by simp only [numL]; omega
    have r1 := and_rec (a := a.toNat) (b := b.toNat) (n := (numL x).toNat) (m := (numL y).toNat) (by omega) (by omega)
    have r2 := or_rec (a := a.toNat) (b := b.toNat) (n := (numL x).toNat) (m := (numL y).toNat) (by omega) (by omega)
    rw [tx, ty, r1, r2]
    simp only [List.zipWith_cons_cons, numL, a2, o2, x2]
    have s1 : (Builtin.bitAnd a b = 0 ∨ Builtin.bitAnd a b = 1) ∧ ((if a + b > 0 then (1 : Int) else 0) = 0 ∨ (if a + b > 0 then (1 : Int) else 0) = 1) ∧ ((if a ≠ b then (1 : Int) else 0) = 0 ∨ (if a ≠ b then (1 : Int) else 0) = 1) ∧ Builtin.bitAnd a b = ((a.toNat &&& b.toNat : Nat) : Int) ∧ (if a + b > 0 then (1 : Int) else 0) = ((a.toNat ||| b.toNat : Nat) : Int) ∧ (if a ≠ b then (1 : Int) else 0) = (if a + b > 0 then (1 : Int) else 0) - Builtin.bitAnd a b := by
      rcases ha with rfl | rfl <;> rcases hb with rfl | rfl <;> decide
    obtain ⟨s1, s2, s3, s4, s5, s6⟩ := s1
    refine ⟨⟨B01.cons s1 a1, ?_⟩, ⟨B01.cons s2 o1, ?_⟩, B01.cons s3 x1, ?_⟩
    · rw [s4]; omega
    · rw [s5]; omega
    · rw [s6]; omega
theorem bits_01 {x : Int} {w : Nat} : B01 (bitsL x w) := by
  intro b hb
  obtain ⟨j, _, rfl⟩ := List.mem_map.mp hb
  omega
theorem bits_len {x : Int} {w : Nat} : (bitsL x w).length = w := by simp [bitsL]
theorem of_num {l : List Int} {w : Nat} {v : Int} (h : B01 l) (hl : l.length = w) (e : numL l = v) : l = bitsL v w ∧ 0 ≤ v ∧ v < 2 ^ w := by
  subst hl e
  exact ⟨(bits_num h).symm, numL_bd h⟩
theorem bitsL_mod {x : Int} {w : Nat} (h1 : 1 ≤ w) (h6 : w ≤ 6) : bitsL (x % 2 ^ w) w = bitsL x w := by
  have hw : w = 1 ∨ w = 2 ∨ w = 3 ∨ w = 4 ∨ w = 5 ∨ w = 6 := by omega
  rcases hw with rfl | rfl | rfl | rfl | rfl | rfl <;> simp [bitsL, List.range_succ] <;> omega
theorem numL_bits {x : Int} {w : Nat} (h1 : 1 ≤ w) (h6 : w ≤ 6) (x0 : 0 ≤ x) (x1 : x < 2 ^ w) : numL (bitsL x w) = x := by
  have hw : w = 1 ∨ w = 2 ∨ w = 3 ∨ w = 4 ∨ w = 5 ∨ w = 6 := by omega
  rcases hw with rfl | rfl | rfl | rfl | rfl | rfl <;> simp [bitsL, numL, List.range_succ] at * <;> omega
theorem bits_neg {x : Int} {w : Nat} (h1 : 1 ≤ w) (h6 : w ≤ 6) (x0 : 0 ≤ x) (x1 : x < 2 ^ w) : negL (bitsL x w) = bitsL (2 ^ w - 1 - x) w := by
  have hw : w = 1 ∨ w = 2 ∨ w = 3 ∨ w = 4 ∨ w = 5 ∨ w = 6 := by omega
  rcases hw with rfl | rfl | rfl | rfl | rfl | rfl <;> simp [bitsL, negL, List.range_succ] at * <;> omega
theorem bits_half {x : Int} {w : Nat} (h1 : 1 ≤ w) (h6 : w ≤ 6) (x0 : 0 ≤ x) (x1 : x < 2 ^ w) : (bitsL x w).drop 1 ++ [0] = bitsL (x / 2) w := by
  have hw : w = 1 ∨ w = 2 ∨ w = 3 ∨ w = 4 ∨ w = 5 ∨ w = 6 := by omega
  rcases hw with rfl | rfl | rfl | rfl | rfl | rfl <;> simp [bitsL, List.range_succ] at * <;> omega
theorem bits_twice {x : Int} {w : Nat} (h1 : 1 ≤ w) (h6 : w ≤ 6) (x0 : 0 ≤ x) (x1 : x < 2 ^ w) : 0 :: (bitsL x w).take (w - 1) = bitsL (x * 2 % 2 ^ w) w := by
  have hw : w = 1 ∨ w = 2 ∨ w = 3 ∨ w = 4 ∨ w = 5 ∨ w = 6 := by omega
  rcases hw with rfl | rfl | rfl | rfl | rfl | rfl <;> simp [bitsL, List.range_succ] at * <;> omega
theorem op_all (o : Op) {w : Nat} (h1 : 1 ≤ w) (h6 : w ≤ 6) {x y : Int} (x0 : 0 ≤ x) (x1 : x < 2 ^ w) (y0 : 0 ≤ y) (y1 : y < 2 ^ w) : o.j (bitsL x w) (bitsL y w) = bitsL (o.w x y (2 ^ w)) w ∧ 0 ≤ o.w x y (2 ^ w) ∧ o.w x y (2 ^ w) < 2 ^ w := by
  have nx := numL_bits h1 h6 x0 x1
  have ny := numL_bits h1 h6 y0 y1
  have bx : B01 (bitsL x w) := bits_01
  have by' : B01 (bitsL y w) := bits_01
  have lx : (bitsL x w).length = w := bits_len
  have ly : (bitsL y w).length = w := bits_len
  have ll : (bitsL x w).length = (bitsL y w).length := by rw [lx, ly]
  obtain ⟨⟨a1, a2⟩, ⟨o1, o2⟩, x1', x2⟩ := bw_ok _ _ bx by' ll
  obtain ⟨n1, n2, n3⟩ := neg_ok _ by'
  rw [nx, ny] at a2 o2
  have flag : ∀ c : Int, (c = 0 ∨ c = 1) → c :: ((bitsL y w).drop 1).map (fun _ => (0 : Int)) = bitsL c w ∧ 0 ≤ c ∧ c < 2 ^ w := fun c hc => by
    have hw : w = 1 ∨ w = 2 ∨ w = 3 ∨ w = 4 ∨ w = 5 ∨ w = 6 := by omega
    rcases hw with rfl | rfl | rfl | rfl | rfl | rfl <;> rcases hc with rfl | rfl <;> simp [bitsL, List.range_succ]
  cases o <;> simp only [Op.j, Op.w]
  case add =>
    obtain ⟨s1, s2, s3, s4⟩ := sum_ok _ _ 0 bx by' ll (.inl rfl)
    have bd := numL_bd s1
    rw [nx, ny, lx] at s4
    rw [s2, lx] at bd
    refine of_num s1 (by rw [s2, lx]) ?_
    rcases s3 with e | e <;> rw [e] at s4
    · rw [Int.emod_eq_of_lt (by omega) (by omega)]; omega
    · rw [show x + y = numL (sumL (bitsL x w) (bitsL y w) 0).1 + 2 ^ w * 1 by omega, Int.add_mul_emod_self_left, Int.emod_eq_of_lt bd.1 bd.2]
  case sub =>
    obtain ⟨s1, s2, s3, s4⟩ := sum_ok _ _ 1 bx n1 (by rw [n2, ll]) (.inr rfl)
    have bd := numL_bd s1
    rw [n3, nx, ny, lx, ly] at s4
    rw [s2, lx] at bd
    refine of_num s1 (by rw [s2, lx]) ?_
    rcases s3 with e | e <;> rw [e] at s4
    · rw [show x - y = numL (sumL (bitsL x w) (negL (bitsL y w)) 1).1 + 2 ^ w * (-1) by omega, Int.add_mul_emod_self_left, Int.emod_eq_of_lt bd.1 bd.2]
    · rw [Int.emod_eq_of_lt (by omega) (by omega)]; omega
  case and =>
    refine of_num a1 (by simp [lx, ly]) ?_
    rw [a2]; exact (and_nn x0 y0).symm
  case or =>
    refine of_num o1 (by simp [lx, ly]) ?_
    rw [o2]; exact (or_nn x0 y0).symm
  case xor =>
    refine of_num x1' (by simp [lx, ly]) ?_
    rw [x2, a2, o2]
    rw [Builtin.bitXor, and_nn x0 y0, or_nn x0 y0]
  case eq =>
    show (if bitsL x w = bitsL y w then (1 : Int) else 0) :: _ = bitsL (if x = y then 1 else 0) w ∧ 0 ≤ (if x = y then (1 : Int) else 0) ∧ (if x = y then (1 : Int) else 0) < 2 ^ w
    by_cases e : x = y
    · subst e; simp only [if_true]; exact flag 1 (.inr rfl)
    · have : bitsL x w ≠ bitsL y w := fun z => e (by rw [← nx, z, ny])
      rw [if_neg this, if_neg e]; exact flag 0 (.inl rfl)
  case lt =>
    obtain ⟨s1, s2, s3, s4⟩ := sum_ok _ _ 1 bx n1 (by rw [n2, ll]) (.inr rfl)
    have bd := numL_bd s1
    rw [n3, nx, ny, lx, ly] at s4
    rw [s2, lx] at bd
    show (if (sumL (bitsL x w) (negL (bitsL y w)) 1).2 = 0 then (1 : Int) else 0) :: _ = bitsL (if x < y then 1 else 0) w ∧ 0 ≤ (if x < y then (1 : Int) else 0) ∧ (if x < y then (1 : Int) else 0) < 2 ^ w
    rcases s3 with e | e <;> rw [e] at s4 ⊢
    · rw [if_pos rfl, if_pos (by omega)]; exact flag 1 (.inr rfl)
    · rw [if_neg (by decide), if_neg (by omega)]; exact flag 0 (.inl rfl)
end K03

namespace K03
open PySem PySem.Spec PyProof.Rows L2 Mo
structure Bag (h : Mh) (b : Nat) (c : Nat) (cells : List Int) (i rest mix cnt : Int) : Prop where
  bag : h[b]? = some (.lst [.ref c, .int i, .int rest, .int mix, .int cnt])
  cel : h[c]? = some (.lst (cells.map D.int))
  ne : c < b
  i0 : 0 ≤ i
  r0 : 0 ≤ rest
  m0 : 0 ≤ mix
  m1 : mix < 2147483629
def BagOk (h : Mh) (b : Nat) : Prop := ∃ c cells i rest mix cnt, Bag h b c cells i rest mix cnt
theorem BagOk.lt {h b} (B : BagOk h b) : b < h.length := by
  obtain ⟨c, cells, i, rest, mix, cnt, B⟩ := B
  exact lt_of B.bag
theorem BagOk.ex {h h' b} (B : BagOk h b) (e : Ex h h') : BagOk h' b := by
  obtain ⟨c, cells, i, rest, mix, cnt, B⟩ := B
  exact ⟨c, cells, i, rest, mix, cnt, e.get B.bag, e.get B.cel, B.ne, B.i0, B.r0, B.m0, B.m1⟩
theorem BagOk.put {h b n o} (B : BagOk h b) (l : b < n) : BagOk (h.set n o) b := by
  obtain ⟨c, cells, i, rest, mix, cnt, B⟩ := B
  have := B.ne
  exact ⟨c, cells, i, rest, mix, cnt, (set_off (by omega)).trans B.bag, (set_off (by omega)).trans B.cel, B.ne, B.i0, B.r0, B.m0, B.m1⟩
theorem draw_ok {h : Mh} {b : Nat} {size : Int} (B : BagOk h b) (s0 : 0 < size) (s1 : size < 1073741824) : (f__law_draw [.ref b, .int size] h).wp fun d h' => ∃ k : Int, d = .int k ∧ 0 ≤ k ∧ k < size ∧ BagOk h' b ∧ Gr b h h' := by
  obtain ⟨c, cells, i, rest, mix, cnt, B⟩ := B
  have hb := B.bag
  have hc := B.cel
  have hbl := lt_of hb
  have hcl := lt_of hc
  have cb : c ≠ b := Nat.ne_of_lt B.ne
  have bc := cb.symm
  have hs : ∀ o, (h.set b o)[b]? = some o := fun o => set_at hbl
  have hcs : ∀ o, (h.set b o)[c]? = some (.lst (cells.map D.int)) := fun o => (set_off bc).trans hc
  clear hbl hcl
  have hm : ∀ x : Int, 0 ≤ x → x < 2147483629 → x.natAbs < 18446744073709551616 := fun x _ _ => by omega
  have hmix := hm mix B.m0 B.m1
  have fin : ∀ (i rest mix cnt : Int), 0 ≤ i → 0 ≤ rest → 0 ≤ mix → mix < 2147483629 → BagOk (h.set b (.lst [.ref c, .int i, .int rest, .int mix, .int cnt])) b ∧ Gr b h (h.set b (.lst [.ref c, .int i, .int rest, .int mix, .int cnt])) := fun i rest mix cnt h1 h2 h3 h4 => ⟨⟨c, cells, i, rest, mix, cnt, hs _, hcs _, B.ne, h1, h2, h3, h4⟩, Gr.rfl.put (.inr rfl)⟩
  have i0 := B.i0
  have r0 := B.r0
  have last : ∀ (i : Int) (mx : Int) (cnt : Int), 0 ≤ i → ∃ k : Int, D.int (((mx % 2147483629) / 71 + (mx % 2147483629) % 7907 * 61) % size) = D.int k ∧ 0 ≤ k ∧ k < size ∧ BagOk (h.set b (.lst [.ref c, .int i, .int 0, .int (mx % 2147483629), .int cnt])) b ∧ Gr b h (h.set b (.lst [.ref c, .int i, .int 0, .int (mx % 2147483629), .int cnt])) := fun i mx cnt hi => ⟨_, rfl, Int.emod_nonneg _ (by omega), Int.emod_lt_of_pos _ s0, fin _ _ _ _ hi (by omega) (by omega) (by omega)⟩
  unfold f__law_draw m__law_draw
  simp [startD, List.replicate, hb, hc, atI, ixN, hs, hcs, s0, s1, hmix, i0]
  split
  · rename_i z
    subst z
    split
    · rename_i l
      have l' : i.toNat < cells.length := by omega
      simp [startD, List.replicate, hb, hc, atI, ixN, hs, hcs, s0, s1, hmix, i0, List.getElem?_eq_getElem l']
      split
      · rename_i big
        have : 0 < cells[i.toNat] := by omega
        simp [startD, List.replicate, hb, hc, atI, ixN, hs, hcs, s0, s1, hmix, i0, this]
        exact ⟨Int.emod_nonneg _ (by omega), Int.emod_lt_of_pos _ s0, fin _ _ _ _ (by omega) (Int.ediv_nonneg (by omega) (by omega)) B.m0 B.m1⟩
      · generalize hq : (mix * 39451 + cells[i.toNat] % 2147483543 * 10009 + 31) % 2147483629 = q
        have q1 : 0 ≤ q := by omega
        have q2 : q < 2147483629 := by omega
        simp [startD, List.replicate, hb, hc, atI, ixN, hs, hcs, s0, s1, hm q q1 q2, i0]
        simpa using last _ _ _ (by omega : 0 ≤ i + 1)
    · simp [startD, List.replicate, hb, hc, atI, ixN, hs, hcs, s0, s1, hmix, i0]
      simpa using last _ _ _ i0
  · have : 0 < rest := by omega
    simp [startD, List.replicate, hb, hc, atI, ixN, hs, hcs, s0, s1, hmix, i0, this]
    exact ⟨Int.emod_nonneg _ (by omega), Int.emod_lt_of_pos _ s0, fin _ _ _ _ i0 (Int.ediv_nonneg (by omega) (by omega)) B.m0 B.m1⟩
theorem of_ok {h : Mh} {b r : Nat} {ds : List D} (B : BagOk h b) (hr : h[r]? = some (.lst ds)) (rb : r ≠ b) (l0 : 0 < ds.length) (l1 : ds.length < 1073741824) : (f__law_of [.ref b, .ref r] h).wp fun d h' => (∃ k : Nat, ds[k]? = some d) ∧ BagOk h' b ∧ Gr b h h' := by
  unfold f__law_of m__law_of
  simp [startD, List.replicate, hr]
  refine (draw_ok B (by omega) (by omega)).mono fun d h' ⟨k, e, k0, k1, B', G⟩ => ?_
  subst e
  have l : k.toNat < ds.length := by omega
  simp [G.get rb hr, atI, ixN, k0, k1, List.getElem?_eq_getElem l]
  exact ⟨⟨_, List.getElem?_eq_getElem l⟩, B', G⟩
theorem ofs_ok {h : Mh} {b : Nat} {z : Str} (B : BagOk h b) (l0 : 0 < z.length) (l1 : z.length ≤ 1000) : (f__law_of [.ref b, .str z] h).wp fun d h' => (∃ c ∈ z.cps.toList, d = .str ⟨#[c]⟩) ∧ BagOk h' b ∧ Gr b h h' := by
  have l2 : LenE z.length := lenE l1
  unfold f__law_of m__law_of
  simp [startD, List.replicate, l2]
  refine (draw_ok B (by omega) (by omega)).mono fun d h' ⟨k, e, k0, k1, B', G⟩ => ?_
  subst e
  have l : k.toNat < z.cps.toList.length := by
    have : z.length = z.cps.toList.length := by simp [Str.length]
    omega
  have k2 : k < (z.cps.toList.length : Int) := by omega
  simp only [l_ixS, if_pos l2, atI, ixN, if_pos k0, if_pos k2, Option.bind_some, List.getElem?_eq_getElem l, wp_ok, wp_rt]
  exact ⟨⟨_, List.getElem_mem l, rfl⟩, B', G⟩
theorem bag_ok {h : Mh} {r : Nat} {ns : List Int} (hr : h[r]? = some (.fls (ns.map D.int))) (l : ns.length ≤ 63) : (f__law_bag [.ref r] h).wp fun d h' => ∃ b, d = .ref b ∧ BagOk h' b ∧ Ex h h' := by
  unfold f__law_bag m__law_bag
  simp [startD, List.replicate, hr]
  refine loop (fun j sg h' => (∃ mix x, sg = [some (.ref r), some (.int mix), x] ∧ 0 ≤ mix ∧ mix < 2147483629) ∧ h' = h ++ [.lst (Mo.cutD (ns.map D.int) none (some 63))]) ⟨⟨_, _, rfl, by decide, by decide⟩, rfl⟩ (fun j x sg h' e ⟨⟨mix, y, es, m0, m1⟩, eh⟩ => ?_) (fun sg h' ⟨⟨mix, y, es, m0, m1⟩, eh⟩ => ?_)
  · subst es eh
    have : ∃ i, x = .int i := by
      have : x ∈ Mo.cutD (ns.map D.int) none (some 63) := List.mem_of_getElem? e
      have : x ∈ ns.map D.int := List.mem_of_mem_drop (List.mem_of_mem_take this)
      obtain ⟨i, _, q⟩ := List.mem_map.mp this
      exact ⟨i, q.symm⟩
    obtain ⟨i, rfl⟩ := this
    refine ⟨srcL_at at_end e, _, rfl, ?_⟩
    simp
    constructor <;> omega
  · subst es eh
    refine ⟨srcL_fin at_end, ?_⟩
    have g : (h ++ [.lst (Mo.cutD (ns.map D.int) none (some 63))])[r]? = some (.fls (ns.map D.int)) := by rw [List.getElem?_append_left (lt_of hr)]; exact hr
    simp [g]
    obtain ⟨cells, ec⟩ : ∃ cells : List Int, Mo.cutD (ns.map D.int) none (some 63) = cells.map D.int := ⟨_, by unfold Mo.cutD; rw [List.map_take, List.map_drop]⟩
    refine ⟨⟨h.length + 2, cells, 0, 0, mix, 0, by simp, by rw [ec]; simp, by omega, by decide, by decide, m0, m1⟩, Ex.app⟩
theorem bits_eq {h : Mh} {x : Int} {w : Nat} (hw : w ≤ 1000) : f__law_bits [.int x, .int (w : Int)] h = .ok (.ref h.length) (h ++ [.lst ((bitsL x w).map D.int)]) := by
  have key : (f__law_bits [.int x, .int (w : Int)] h).wp fun d h' => d = .ref h.length ∧ h' = h ++ [.lst ((bitsL x w).map D.int)] := by
    unfold f__law_bits m__law_bits
    have e2 : InR (w : Int) := inR_of (by omega) (by omega)
    simp [startD, List.replicate, e2]
    refine loop (fun j sg h' => (∃ y, sg = [some (.int (x / 2 ^ j)), some (.int (w : Int)), some (.ref h.length), y]) ∧ h' = h ++ [.lst ((bitsL x j).map D.int)]) ⟨⟨_, by simp; rfl⟩, rfl⟩ (fun j d sg h' e ⟨⟨y, es⟩, eh⟩ => ?_) (fun sg h' ⟨⟨y, es⟩, eh⟩ => ?_)
    · subst es eh
      have jl : j < w := by simpa using (List.getElem?_eq_some_iff.mp e).1
      refine ⟨trivial, _, rfl, ?_⟩
      have hl : LenC (bitsL x j).length := lenC (by rw [bits_len]; omega)
      simp [hl]
      refine ⟨?_, ?_⟩
      · rw [Int.pow_succ, Int.ediv_ediv_of_nonneg (Int.pow_nonneg (by decide))]
      · unfold bitsL
        rw [List.range_succ, List.map_append, List.map_append]
        simp
        omega
    · subst es eh
      simp
  obtain ⟨d, h', e, rfl, rfl⟩ := key.out
  exact e
theorem numL_app (l : List Int) (b : Int) : numL (l ++ [b]) = numL l + b * 2 ^ l.length := by
  induction l with
  | nil => simp [numL]
  | cons a l ih => 
    simp only [List.cons_append, numL, ih, List.length_cons, Int.pow_succ]
    have : b * (2 ^ l.length * 2) = 2 * (b * 2 ^ l.length) := by rw [← Int.mul_assoc, Int.mul_comm]
    omega
theorem number_eq {h : Mh} {r : Nat} {bs : List Int} (hr : h[r]? = some (.lst (bs.map D.int))) (hb : ∀ b ∈ bs, b = 0 ∨ b = 1) (hl : bs.length ≤ 1000) : f__law_number [.ref r] h = .ok (.int (numL bs)) h := by
  have key : (f__law_number [.ref r] h).wp fun d h' => d = .int (numL bs) ∧ h' = h := by
    unfold f__law_number m__law_number
    have e2 : InR (bs.length : Int) := inR_of (by omega) (by omega)
    simp [startD, List.replicate, e2, hr]
    refine loop (fun j sg h' => (∃ y, sg = [some (.ref r), some (.int (numL (bs.take j))), y]) ∧ h' = h) ⟨⟨none, rfl⟩, rfl⟩ (fun j d sg h' e ⟨⟨y, es⟩, eh⟩ => ?_) (fun sg h' ⟨⟨y, es⟩, eh⟩ => ?_)
    · subst es eh
      have jl : j < bs.length := by simpa using (List.getElem?_eq_some_iff.mp e).1
      have ed : d = .int (j : Int) := by
        simp [List.getElem?_range jl] at e
        exact e.symm
      subst ed
      refine ⟨trivial, _, rfl, ?_⟩
      have hj := hb _ (List.getElem_mem jl)
      have jl2 : (j : Int) < (bs.length : Int) := by omega
      have j3 : (j : Int) ≤ 1000000 := by omega
      have tk : bs.take (j + 1) = bs.take j ++ [bs[j]] := List.take_succ_eq_append_getElem jl
      have z : -18446744073709551616 < bs[j] ∧ bs[j] < 18446744073709551616 := by omega
      simp [hr, atI, ixN, jl2, j3, List.getElem?_eq_getElem jl, z]
      rw [tk, numL_app, List.length_take, Nat.min_eq_left (Nat.le_of_lt jl)]
    · subst es eh
      simp
  obtain ⟨d, h', e, rfl, rfl⟩ := key.out
  exact e
end K03

namespace K03
open PySem PySem.Spec PyProof.Rows L2 Mo
@[simp] theorem ne_1 : (Str.ofString "number" = Str.ofString "word") = False := eq_false (by decide +kernel)
@[simp] theorem ne_2 : (Str.ofString "number" = Str.ofString "at") = False := eq_false (by decide +kernel)
@[simp] theorem ne_3 : (Str.ofString "number" = Str.ofString "~") = False := eq_false (by decide +kernel)
@[simp] theorem ne_4 : (Str.ofString "number" = Str.ofString "half") = False := eq_false (by decide +kernel)
@[simp] theorem ne_5 : (Str.ofString "number" = Str.ofString "twice") = False := eq_false (by decide +kernel)
@[simp] theorem ne_6 : (Str.ofString "number" = Str.ofString "+") = False := eq_false (by decide +kernel)
@[simp] theorem ne_7 : (Str.ofString "number" = Str.ofString "-") = False := eq_false (by decide +kernel)
@[simp] theorem ne_8 : (Str.ofString "number" = Str.ofString "&") = False := eq_false (by decide +kernel)
@[simp] theorem ne_9 : (Str.ofString "number" = Str.ofString "|") = False := eq_false (by decide +kernel)
@[simp] theorem ne_10 : (Str.ofString "number" = Str.ofString "^") = False := eq_false (by decide +kernel)
@[simp] theorem ne_11 : (Str.ofString "number" = Str.ofString "==") = False := eq_false (by decide +kernel)
@[simp] theorem ne_12 : (Str.ofString "number" = Str.ofString "<") = False := eq_false (by decide +kernel)
@[simp] theorem ne_13 : (Str.ofString "word" = Str.ofString "number") = False := eq_false (by decide +kernel)
@[simp] theorem ne_14 : (Str.ofString "word" = Str.ofString "at") = False := eq_false (by decide +kernel)
@[simp] theorem ne_15 : (Str.ofString "word" = Str.ofString "~") = False := eq_false (by decide +kernel)
@[simp] theorem ne_16 : (Str.ofString "word" = Str.ofString "half") = False := eq_false (by decide +kernel)
@[simp] theorem ne_17 : (Str.ofString "word" = Str.ofString "twice") = False := eq_false (by decide +kernel)
@[simp] theorem ne_18 : (Str.ofString "word" = Str.ofString "+") = False := eq_false (by decide +kernel)
@[simp] theorem ne_19 : (Str.ofString "word" = Str.ofString "-") = False := eq_false (by decide +kernel)
@[simp] theorem ne_20 : (Str.ofString "word" = Str.ofString "&") = False := eq_false (by decide +kernel)
@[simp] theorem ne_21 : (Str.ofString "word" = Str.ofString "|") = False := eq_false (by decide +kernel)
@[simp] theorem ne_22 : (Str.ofString "word" = Str.ofString "^") = False := eq_false (by decide +kernel)
@[simp] theorem ne_23 : (Str.ofString "word" = Str.ofString "==") = False := eq_false (by decide +kernel)
@[simp] theorem ne_24 : (Str.ofString "word" = Str.ofString "<") = False := eq_false (by decide +kernel)
@[simp] theorem ne_25 : (Str.ofString "at" = Str.ofString "number") = False := eq_false (by decide +kernel)
@[simp] theorem ne_26 : (Str.ofString "at" = Str.ofString "word") = False := eq_false (by decide +kernel)
@[simp] theorem ne_27 : (Str.ofString "at" = Str.ofString "~") = False := eq_false (by decide +kernel)
@[simp] theorem ne_28 : (Str.ofString "at" = Str.ofString "half") = False := eq_false (by decide +kernel)
@[simp] theorem ne_29 : (Str.ofString "at" = Str.ofString "twice") = False := eq_false (by decide +kernel)
@[simp] theorem ne_30 : (Str.ofString "at" = Str.ofString "+") = False := eq_false (by decide +kernel)
@[simp] theorem ne_31 : (Str.ofString "at" = Str.ofString "-") = False := eq_false (by decide +kernel)
@[simp] theorem ne_32 : (Str.ofString "at" = Str.ofString "&") = False := eq_false (by decide +kernel)
@[simp] theorem ne_33 : (Str.ofString "at" = Str.ofString "|") = False := eq_false (by decide +kernel)
@[simp] theorem ne_34 : (Str.ofString "at" = Str.ofString "^") = False := eq_false (by decide +kernel)
@[simp] theorem ne_35 : (Str.ofString "at" = Str.ofString "==") = False := eq_false (by decide +kernel)
@[simp] theorem ne_36 : (Str.ofString "at" = Str.ofString "<") = False := eq_false (by decide +kernel)
@[simp] theorem ne_37 : (Str.ofString "~" = Str.ofString "number") = False := eq_false (by decide +kernel)
@[simp] theorem ne_38 : (Str.ofString "~" = Str.ofString "word") = False := eq_false (by decide +kernel)
@[simp] theorem ne_39 : (Str.ofString "~" = Str.ofString "at") = False := eq_false (by decide +kernel)
@[simp] theorem ne_40 : (Str.ofString "~" = Str.ofString "half") = False := eq_false (by decide +kernel)
@[simp] theorem ne_41 : (Str.ofString "~" = Str.ofString "twice") = False := eq_false (by decide +kernel)
@[simp] theorem ne_42 : (Str.ofString "~" = Str.ofString "+") = False := eq_false (by decide +kernel)
@[simp] theorem ne_43 : (Str.ofString "~" = Str.ofString "-") = False := eq_false (by decide +kernel)
@[simp] theorem ne_44 : (Str.ofString "~" = Str.ofString "&") = False := eq_false (by decide +kernel)
@[simp] theorem ne_45 : (Str.ofString "~" = Str.ofString "|") = False := eq_false (by decide +kernel)
@[simp] theorem ne_46 : (Str.ofString "~" = Str.ofString "^") = False := eq_false (by decide +kernel)
@[simp] theorem ne_47 : (Str.ofString "~" = Str.ofString "==") = False := eq_false (by decide +kernel)
@[simp] theorem ne_48 : (Str.ofString "~" = Str.ofString "<") = False := eq_false (by decide +kernel)
@[simp] theorem ne_49 : (Str.ofString "half" = Str.ofString "number") = False := eq_false (by decide +kernel)
@[simp] theorem ne_50 : (Str.ofString "half" = Str.ofString "word") = False := eq_false (by decide +kernel)
@[simp] theorem ne_51 : (Str.ofString "half" = Str.ofString "at") = False := eq_false (by decide +kernel)
@[simp] theorem ne_52 : (Str.ofString "half" = Str.ofString "~") = False := eq_false (by decide +kernel)
@[simp] theorem ne_53 : (Str.ofString "half" = Str.ofString "twice") = False := eq_false (by decide +kernel)
@[simp] theorem ne_54 : (Str.ofString "half" = Str.ofString "+") = False := eq_false (by decide +kernel)
@[simp] theorem ne_55 : (Str.ofString "half" = Str.ofString "-") = False := eq_false (by decide +kernel)
@[simp] theorem ne_56 : (Str.ofString "half" = Str.ofString "&") = False := eq_false (by decide +kernel)
@[simp] theorem ne_57 : (Str.ofString "half" = Str.ofString "|") = False := eq_false (by decide +kernel)
@[simp] theorem ne_58 : (Str.ofString "half" = Str.ofString "^") = False := eq_false (by decide +kernel)
@[simp] theorem ne_59 : (Str.ofString "half" = Str.ofString "==") = False := eq_false (by decide +kernel)
@[simp] theorem ne_60 : (Str.ofString "half" = Str.ofString "<") = False := eq_false (by decide +kernel)
@[simp] theorem ne_61 : (Str.ofString "twice" = Str.ofString "number") = False := eq_false (by decide +kernel)
@[simp] theorem ne_62 : (Str.ofString "twice" = Str.ofString "word") = False := eq_false (by decide +kernel)
@[simp] theorem ne_63 : (Str.ofString "twice" = Str.ofString "at") = False := eq_false (by decide +kernel)
@[simp] theorem ne_64 : (Str.ofString "twice" = Str.ofString "~") = False := eq_false (by decide +kernel)
@[simp] theorem ne_65 : (Str.ofString "twice" = Str.ofString "half") = False := eq_false (by decide +kernel)
@[simp] theorem ne_66 : (Str.ofString "twice" = Str.ofString "+") = False := eq_false (by decide +kernel)
@[simp] theorem ne_67 : (Str.ofString "twice" = Str.ofString "-") = False := eq_false (by decide +kernel)
@[simp] theorem ne_68 : (Str.ofString "twice" = Str.ofString "&") = False := eq_false (by decide +kernel)
@[simp] theorem ne_69 : (Str.ofString "twice" = Str.ofString "|") = False := eq_false (by decide +kernel)
@[simp] theorem ne_70 : (Str.ofString "twice" = Str.ofString "^") = False := eq_false (by decide +kernel)
@[simp] theorem ne_71 : (Str.ofString "twice" = Str.ofString "==") = False := eq_false (by decide +kernel)
@[simp] theorem ne_72 : (Str.ofString "twice" = Str.ofString "<") = False := eq_false (by decide +kernel)
@[simp] theorem ne_73 : (Str.ofString "+" = Str.ofString "number") = False := eq_false (by decide +kernel)
@[simp] theorem ne_74 : (Str.ofString "+" = Str.ofString "word") = False := eq_false (by decide +kernel)
@[simp] theorem ne_75 : (Str.ofString "+" = Str.ofString "at") = False := eq_false (by decide +kernel)
@[simp] theorem ne_76 : (Str.ofString "+" = Str.ofString "~") = False := eq_false (by decide +kernel)
@[simp] theorem ne_77 : (Str.ofString "+" = Str.ofString "half") = False := eq_false (by decide +kernel)
@[simp] theorem ne_78 : (Str.ofString "+" = Str.ofString "twice") = False := eq_false (by decide +kernel)
@[simp] theorem ne_79 : (Str.ofString "+" = Str.ofString "-") = False := eq_false (by decide +kernel)
@[simp] theorem ne_80 : (Str.ofString "+" = Str.ofString "&") = False := eq_false (by decide +kernel)
@[simp] theorem ne_81 : (Str.ofString "+" = Str.ofString "|") = False := eq_false (by decide +kernel)
@[simp] theorem ne_82 : (Str.ofString "+" = Str.ofString "^") = False := eq_false (by decide +kernel)
@[simp] theorem ne_83 : (Str.ofString "+" = Str.ofString "==") = False := eq_false (by decide +kernel)
@[simp] theorem ne_84 : (Str.ofString "+" = Str.ofString "<") = False := eq_false (by decide +kernel)
@[simp] theorem ne_85 : (Str.ofString "-" = Str.ofString "number") = False := eq_false (by decide +kernel)
@[simp] theorem ne_86 : (Str.ofString "-" = Str.ofString "word") = False := eq_false (by decide +kernel)
@[simp] theorem ne_87 : (Str.ofString "-" = Str.ofString "at") = False := eq_false (by decide +kernel)
@[simp] theorem ne_88 : (Str.ofString "-" = Str.ofString "~") = False := eq_false (by decide +kernel)
@[simp] theorem ne_89 : (Str.ofString "-" = Str.ofString "half") = False := eq_false (by decide +kernel)
@[simp] theorem ne_90 : (Str.ofString "-" = Str.ofString "twice") = False := eq_false (by decide +kernel)
@[simp] theorem ne_91 : (Str.ofString "-" = Str.ofString "+") = False := eq_false (by decide +kernel)
@[simp] theorem ne_92 : (Str.ofString "-" = Str.ofString "&") = False := eq_false (by decide +kernel)
@[simp] theorem ne_93 : (Str.ofString "-" = Str.ofString "|") = False := eq_false (by decide +kernel)
@[simp] theorem ne_94 : (Str.ofString "-" = Str.ofString "^") = False := eq_false (by decide +kernel)
@[simp] theorem ne_95 : (Str.ofString "-" = Str.ofString "==") = False := eq_false (by decide +kernel)
@[simp] theorem ne_96 : (Str.ofString "-" = Str.ofString "<") = False := eq_false (by decide +kernel)
@[simp] theorem ne_97 : (Str.ofString "&" = Str.ofString "number") = False := eq_false (by decide +kernel)
@[simp] theorem ne_98 : (Str.ofString "&" = Str.ofString "word") = False := eq_false (by decide +kernel)
@[simp] theorem ne_99 : (Str.ofString "&" = Str.ofString "at") = False := eq_false (by decide +kernel)
@[simp] theorem ne_100 : (Str.ofString "&" = Str.ofString "~") = False := eq_false (by decide +kernel)
@[simp] theorem ne_101 : (Str.ofString "&" = Str.ofString "half") = False := eq_false (by decide +kernel)
@[simp] theorem ne_102 : (Str.ofString "&" = Str.ofString "twice") = False := eq_false (by decide +kernel)
@[simp] theorem ne_103 : (Str.ofString "&" = Str.ofString "+") = False := eq_false (by decide +kernel)
@[simp] theorem ne_104 : (Str.ofString "&" = Str.ofString "-") = False := eq_false (by decide +kernel)
@[simp] theorem ne_105 : (Str.ofString "&" = Str.ofString "|") = False := eq_false (by decide +kernel)
@[simp] theorem ne_106 : (Str.ofString "&" = Str.ofString "^") = False := eq_false (by decide +kernel)
@[simp] theorem ne_107 : (Str.ofString "&" = Str.ofString "==") = False := eq_false (by decide +kernel)
@[simp] theorem ne_108 : (Str.ofString "&" = Str.ofString "<") = False := eq_false (by decide +kernel)
@[simp] theorem ne_109 : (Str.ofString "|" = Str.ofString "number") = False := eq_false (by decide +kernel)
@[simp] theorem ne_110 : (Str.ofString "|" = Str.ofString "word") = False := eq_false (by decide +kernel)
@[simp] theorem ne_111 : (Str.ofString "|" = Str.ofString "at") = False := eq_false (by decide +kernel)
@[simp] theorem ne_112 : (Str.ofString "|" = Str.ofString "~") = False := eq_false (by decide +kernel)
@[simp] theorem ne_113 : (Str.ofString "|" = Str.ofString "half") = False := eq_false (by decide +kernel)
@[simp] theorem ne_114 : (Str.ofString "|" = Str.ofString "twice") = False := eq_false (by decide +kernel)
@[simp] theorem ne_115 : (Str.ofString "|" = Str.ofString "+") = False := eq_false (by decide +kernel)
@[simp] theorem ne_116 : (Str.ofString "|" = Str.ofString "-") = False := eq_false (by decide +kernel)
@[simp] theorem ne_117 : (Str.ofString "|" = Str.ofString "&") = False := eq_false (by decide +kernel)
@[simp] theorem ne_118 : (Str.ofString "|" = Str.ofString "^") = False := eq_false (by decide +kernel)
@[simp] theorem ne_119 : (Str.ofString "|" = Str.ofString "==") = False := eq_false (by decide +kernel)
@[simp] theorem ne_120 : (Str.ofString "|" = Str.ofString "<") = False := eq_false (by decide +kernel)
@[simp] theorem ne_121 : (Str.ofString "^" = Str.ofString "number") = False := eq_false (by decide +kernel)
@[simp] theorem ne_122 : (Str.ofString "^" = Str.ofString "word") = False := eq_false (by decide +kernel)
@[simp] theorem ne_123 : (Str.ofString "^" = Str.ofString "at") = False := eq_false (by decide +kernel)
@[simp] theorem ne_124 : (Str.ofString "^" = Str.ofString "~") = False := eq_false (by decide +kernel)
@[simp] theorem ne_125 : (Str.ofString "^" = Str.ofString "half") = False := eq_false (by decide +kernel)
@[simp] theorem ne_126 : (Str.ofString "^" = Str.ofString "twice") = False := eq_false (by decide +kernel)
@[simp] theorem ne_127 : (Str.ofString "^" = Str.ofString "+") = False := eq_false (by decide +kernel)
@[simp] theorem ne_128 : (Str.ofString "^" = Str.ofString "-") = False := eq_false (by decide +kernel)
@[simp] theorem ne_129 : (Str.ofString "^" = Str.ofString "&") = False := eq_false (by decide +kernel)
@[simp] theorem ne_130 : (Str.ofString "^" = Str.ofString "|") = False := eq_false (by decide +kernel)
@[simp] theorem ne_131 : (Str.ofString "^" = Str.ofString "==") = False := eq_false (by decide +kernel)
@[simp] theorem ne_132 : (Str.ofString "^" = Str.ofString "<") = False := eq_false (by decide +kernel)
@[simp] theorem ne_133 : (Str.ofString "==" = Str.ofString "number") = False := eq_false (by decide +kernel)
@[simp] theorem ne_134 : (Str.ofString "==" = Str.ofString "word") = False := eq_false (by decide +kernel)
@[simp] theorem ne_135 : (Str.ofString "==" = Str.ofString "at") = False := eq_false (by decide +kernel)
@[simp] theorem ne_136 : (Str.ofString "==" = Str.ofString "~") = False := eq_false (by decide +kernel)
@[simp] theorem ne_137 : (Str.ofString "==" = Str.ofString "half") = False := eq_false (by decide +kernel)
@[simp] theorem ne_138 : (Str.ofString "==" = Str.ofString "twice") = False := eq_false (by decide +kernel)
@[simp] theorem ne_139 : (Str.ofString "==" = Str.ofString "+") = False := eq_false (by decide +kernel)
@[simp] theorem ne_140 : (Str.ofString "==" = Str.ofString "-") = False := eq_false (by decide +kernel)
@[simp] theorem ne_141 : (Str.ofString "==" = Str.ofString "&") = False := eq_false (by decide +kernel)
@[simp] theorem ne_142 : (Str.ofString "==" = Str.ofString "|") = False := eq_false (by decide +kernel)
@[simp] theorem ne_143 : (Str.ofString "==" = Str.ofString "^") = False := eq_false (by decide +kernel)
@[simp] theorem ne_144 : (Str.ofString "==" = Str.ofString "<") = False := eq_false (by decide +kernel)
@[simp] theorem ne_145 : (Str.ofString "<" = Str.ofString "number") = False := eq_false (by decide +kernel)
@[simp] theorem ne_146 : (Str.ofString "<" = Str.ofString "word") = False := eq_false (by decide +kernel)
@[simp] theorem ne_147 : (Str.ofString "<" = Str.ofString "at") = False := eq_false (by decide +kernel)
@[simp] theorem ne_148 : (Str.ofString "<" = Str.ofString "~") = False := eq_false (by decide +kernel)
@[simp] theorem ne_149 : (Str.ofString "<" = Str.ofString "half") = False := eq_false (by decide +kernel)
@[simp] theorem ne_150 : (Str.ofString "<" = Str.ofString "twice") = False := eq_false (by decide +kernel)
@[simp] theorem ne_151 : (Str.ofString "<" = Str.ofString "+") = False := eq_false (by decide +kernel)
@[simp] theorem ne_152 : (Str.ofString "<" = Str.ofString "-") = False := eq_false (by decide +kernel)
@[simp] theorem ne_153 : (Str.ofString "<" = Str.ofString "&") = False := eq_false (by decide +kernel)
@[simp] theorem ne_154 : (Str.ofString "<" = Str.ofString "|") = False := eq_false (by decide +kernel)
@[simp] theorem ne_155 : (Str.ofString "<" = Str.ofString "^") = False := eq_false (by decide +kernel)
@[simp] theorem ne_156 : (Str.ofString "<" = Str.ofString "==") = False := eq_false (by decide +kernel)
end K03

namespace K03
open PySem PySem.Spec PyProof.Rows L2 Mo
theorem zip_ints {xs ys : List Int} {j : Nat} {d : D} (e : (zipD (xs.map D.int) (ys.map D.int))[j]? = some d) : ∃ a b, xs[j]? = some a ∧ ys[j]? = some b ∧ d = .tup [.int a, .int b] := by
  obtain ⟨x, y, e1, e2, rfl⟩ := zipD_get e
  rw [List.getElem?_map] at e1 e2
  obtain ⟨a, h1, rfl⟩ := Option.map_eq_some_iff.mp e1
  obtain ⟨b, h2, rfl⟩ := Option.map_eq_some_iff.mp e2
  exact ⟨a, b, h1, h2, rfl⟩
theorem zip_len : ∀ {xs ys : List Int}, xs.length = ys.length → (zipD (xs.map D.int) (ys.map D.int)).length = xs.length
  | [], [], _ => rfl
  | [], _ :: _, e => by simp at e
  | _ :: _, [], e => by simp at e
  | x :: xs, y :: ys, e => by simp only [List.map_cons, zipD, List.length_cons, zip_len (by simpa using e)]
@[simp] theorem srcZ_items {n m xs ys} : (srcZ n m xs ys).items = zipD xs ys := rfl
theorem srcZ_at {n m : Nat} {xs ys : List D} {i : Nat} {x y : D} {h : Mh} (e1 : h[n]? = some (.lst xs)) (e2 : h[m]? = some (.lst ys)) (q1 : xs[i]? = some x) (q2 : ys[i]? = some y) : (srcZ n m xs ys).at' i (.tup [x, y]) h := ⟨x, y, rfl, srcL_at e1 q1, srcL_at e2 q2⟩
theorem srcZ_fin {n m : Nat} {xs ys : List D} {h : Mh} (e1 : h[n]? = some (.lst xs)) (e2 : h[m]? = some (.lst ys)) : (srcZ n m xs ys).fin (zipD xs ys).length h := ⟨xs, ys, .inl e1, .inl e2, zipD_len xs ys⟩
theorem sumL_app : ∀ (x y : List Int) (a b c : Int), x.length = y.length → sumL (x ++ [a]) (y ++ [b]) c = ((sumL x y c).1 ++ [Builtin.bitXor (Builtin.bitXor a b) (sumL x y c).2], Builtin.bitOr (Builtin.bitAnd a b) (Builtin.bitAnd (sumL x y c).2 (Builtin.bitXor a b)))
  | [], [], a, b, c, _ => rfl
  | [], _ :: _, _, _, _, e => by simp at e
  | _ :: _, [], _, _, _, e => by simp at e
  | p :: x, q :: y, a, b, c, e => by
    have ih := sumL_app x y a b (Builtin.bitOr (Builtin.bitAnd p q) (Builtin.bitAnd c (Builtin.bitXor p q))) (by simpa using e)
    simp only [List.cons_append, sumL, ih]
theorem take_step {l : List Int} {j : Nat} {a : Int} (e : l[j]? = some a) : l.take (j + 1) = l.take j ++ [a] := by rw [List.take_add_one, e]; rfl
theorem app_get {h t : Mh} {n : Nat} {o : MO} (e : h[n]? = some o) : (h ++ t)[n]? = some o := by rw [List.getElem?_append_left (lt_of e)]; exact e
theorem sum_eq {h : Mh} {r1 r2 : Nat} {xs ys : List Int} {c : Int} (h1 : h[r1]? = some (.lst (xs.map D.int))) (h2 : h[r2]? = some (.lst (ys.map D.int))) (hl : xs.length = ys.length) (hs : xs.length ≤ 6) :
    f__law_sum [.ref r1, .ref r2, .int c] h = .ok (.ref (h.length + 1)) (h ++ [.lst ((sumL xs ys c).1.map D.int), .lst [.ref h.length, .int (sumL xs ys c).2]]) := by
  have key : (f__law_sum [.ref r1, .ref r2, .int c] h).wp fun d h' => d = .ref (h.length + 1) ∧ h' = h ++ [.lst ((sumL xs ys c).1.map D.int), .lst [.ref h.length, .int (sumL xs ys c).2]] := by
    unfold f__law_sum m__law_sum
    simp [startD, List.replicate, app_get h1, app_get h2]
    refine loop (fun j sg h' => (∃ y z, sg = [some (.ref r1), some (.ref r2), some (.int (sumL (xs.take j) (ys.take j) c).2), some (.ref h.length), y, z]) ∧ h' = h ++ [.lst ((sumL (xs.take j) (ys.take j) c).1.map D.int)]) ⟨⟨none, none, rfl⟩, rfl⟩ (fun j d sg h' e ⟨⟨y, z, es⟩, eh⟩ => ?_) (fun sg h' ⟨⟨y, z, es⟩, eh⟩ => ?_)
    · subst es eh
      obtain ⟨a, b, e1, e2, rfl⟩ := zip_ints e
      refine ⟨srcZ_at (app_get h1) (app_get h2) (by simp [e1]) (by simp [e2]), _, g_two, ?_⟩
      have jl : j < xs.length := (List.getElem?_eq_some_iff.mp e1).1
      have lt : (xs.take j).length = (ys.take j).length := by simp [hl]
      have l6 : ∀ (x y : List Int) (c : Int), (sumL x y c).1.length ≤ x.length := fun x => by
        induction x with
        | nil => intro y c; simp [sumL]
        | cons p x ih => intro y c; cases y with
          | nil => simp [sumL]
          | cons q y => simp only [sumL, List.length_cons]; exact Nat.succ_le_succ (ih y _)
      have hlc : LenC (sumL (xs.take j) (ys.take j) c).1.length := lenC (by have := l6 (xs.take j) (ys.take j) c; have : (xs.take j).length ≤ j := by simp; omega
                                                                            omega)
      rw [take_step e1, take_step e2, sumL_app _ _ _ _ _ lt]
      simp [hlc]
    · subst es eh
      have lz := zip_len hl
      refine ⟨srcZ_fin (app_get h1) (app_get h2), ?_⟩
      rw [lz]
      have ty : ys.take xs.length = ys := by rw [hl]; exact List.take_length
      rw [List.take_length, ty]
      simp
  obtain ⟨d, h', e, rfl, rfl⟩ := key.out
  exact e
end K03

namespace K03
open PySem PySem.Spec PyProof.Rows L2 Mo
/-! equality of data -/
theorem eq_ok {neg : Bool} {x y : D} {h : Mh} {a b : PyData} (e1 : pd 66 h x = some a) (e2 : pd 66 h y = some b) (s1 : SeqAt.shaped a = true) (s2 : SeqAt.shaped b = true) (sc : scD x y = none) : dE neg x y h = .ok (.bl (if neg then !PyData.eqv a b else PyData.eqv a b)) h := by
  unfold dE dEqB
  rw [sc, e1, e2]
  exact if_pos ⟨s1, s2⟩
theorem pdl_ints {n : Nat} {h : Mh} : ∀ xs : List Int, pdl (pd (n + 1) h) (xs.map D.int) = some (xs.map PyData.int)
  | [] => rfl
  | x :: xs => by
    have ih := pdl_ints (n := n) (h := h) xs
    simp only [List.map_cons, pdl, ih]
    rfl
theorem pd_ints {n : Nat} {h : Mh} {r : Nat} {xs : List Int} (e : h[r]? = some (.lst (xs.map D.int))) : pd (n + 2) h (.ref r) = some (.list (xs.map PyData.int)) := by
  show (match h[r]? with
    | some (.lst ds) => (pdl (pd (n + 1) h) ds).map PyData.list
    | some (.fls ds) => (pdl (pd (n + 1) h) ds).map PyData.list
    | _ => none) = _
  rw [e]
  show (pdl (pd (n + 1) h) (xs.map D.int)).map PyData.list = _
  rw [pdl_ints]; rfl
theorem lay_ints : ∀ xs : List Int, PyData.canLayAll0 (xs.map PyData.int) = true ∧ PyData.depthAll (xs.map PyData.int) = 0
  | [] => by simp [PyData.canLayAll0, PyData.depthAll]
  | x :: xs => by
    have := lay_ints xs
    simp [PyData.canLayAll0, PyData.canLay0, PyData.depthAll, PyData.depth, this.1, this.2]
theorem shaped_ints (xs : List Int) : SeqAt.shaped (.list (xs.map PyData.int)) = true := by
  have := lay_ints xs
  simp [SeqAt.shaped, PyData.canLay0, PyData.depth, this.1, this.2]
theorem eqv_ints : ∀ xs ys : List Int, PyData.eqvAll (xs.map PyData.int) (ys.map PyData.int) = decide (xs = ys)
  | [], [] => by simp [PyData.eqvAll]
  | [], _ :: _ => by simp [PyData.eqvAll]
  | _ :: _, [] => by simp [PyData.eqvAll]
  | x :: xs, y :: ys => by
    simp only [List.map_cons, PyData.eqvAll, PyData.eqv, eqv_ints xs ys, List.cons.injEq, Bool.decide_and]
    rfl
theorem eq_lists {h : Mh} {r1 r2 : Nat} {xs ys : List Int} (h1 : h[r1]? = some (.lst (xs.map D.int))) (h2 : h[r2]? = some (.lst (ys.map D.int))) : dE false (.ref r1) (.ref r2) h = .ok (.bl (decide (xs = ys))) h := by
  rw [eq_ok (pd_ints (n := 64) h1) (pd_ints (n := 64) h2) (shaped_ints xs) (shaped_ints ys) rfl]
  simp [PyData.eqv, eqv_ints]
/-! comprehensions over ints -/
def dI (f : Int → Int) : D → D
  | .int i => .int (f i)
  | d => d
def dII' (f : Int → Int → Int) : D → D
  | .tup [.int a, .int b] => .int (f a b)
  | d => d
theorem map_dI (f : Int → Int) (xs : List Int) : (xs.map D.int).map (dI f) = (xs.map f).map D.int := by
  rw [List.map_map, List.map_map]; rfl
theorem map_dII (f : Int → Int → Int) : ∀ xs ys : List Int, (zipD (xs.map D.int) (ys.map D.int)).map (dII' f) = (List.zipWith f xs ys).map D.int
  | [], _ => by simp [zipD]
  | _ :: _, [] => by simp [zipD]
  | x :: xs, y :: ys => by
    have := map_dII f xs ys
    simp only [List.map_cons, zipD, List.zipWith_cons_cons, this]
    rfl
theorem int_at {xs : List Int} {j : Nat} {d : D} (e : (xs.map D.int)[j]? = some d) : ∃ a, xs[j]? = some a ∧ d = .int a := by
  rw [List.getElem?_map] at e
  obtain ⟨a, h1, rfl⟩ := Option.map_eq_some_iff.mp e
  exact ⟨a, h1, rfl⟩
theorem lc_ints {r : Nat} {h : Mh} {sg : Sg} {i : Nat} {me : Sg → Mh → R D} {xs : List Int} (f : Int → Int) (hr : h[r]? = some (.lst (xs.map D.int))) (hl : xs.length ≤ 1000)
    (hx : ∀ a h', a ∈ xs → (me (sg.set i (some (.int a))) h').wp fun d h'' => d = .int (f a) ∧ h'' = h') : lcL (srcL r (xs.map D.int)) (gNm i) mYes me sg h.length (xs.map D.int) 0 (h ++ [.lst []]) = .ok (.ref h.length) (h ++ [.lst ((xs.map f).map D.int)]) := by
  rw [← map_dI]
  refine lc_map (dI f) (Nat.le_trans (by simpa using hl) line_le) (fun j x acc e => ?_) (fun acc => srcL_fin (app_get hr))
  obtain ⟨a, e1, rfl⟩ := int_at e
  obtain ⟨d, h'', e2, rfl, rfl⟩ := (hx a (h ++ [.lst acc]) (List.mem_of_getElem? e1)).out
  exact ⟨srcL_at (app_get hr) e, _, rfl, e2⟩
theorem lc_zip {r1 r2 : Nat} {h : Mh} {sg : Sg} {i k : Nat} {me : Sg → Mh → R D} {xs ys : List Int} (f : Int → Int → Int) (h1 : h[r1]? = some (.lst (xs.map D.int))) (h2 : h[r2]? = some (.lst (ys.map D.int))) (he : xs.length = ys.length) (hl : xs.length ≤ 1000)
    (hx : ∀ a b h', (me ((sg.set i (some (.int a))).set k (some (.int b))) h').wp fun d h'' => d = .int (f a b) ∧ h'' = h') : lcL (srcZ r1 r2 (xs.map D.int) (ys.map D.int)) (gTp 2 (gsCons (gNm i) (gsCons (gNm k) gsNil))) mYes me sg h.length (zipD (xs.map D.int) (ys.map D.int)) 0 (h ++ [.lst []]) = .ok (.ref h.length) (h ++ [.lst ((List.zipWith f xs ys).map D.int)]) := by
  rw [← map_dII]
  refine lc_map (dII' f) (Nat.le_trans (by rw [zip_len he]; exact hl) line_le) (fun j x acc e => ?_) (fun acc => srcZ_fin (app_get h1) (app_get h2))
  obtain ⟨a, b, e1, e2, rfl⟩ := zip_ints e
  obtain ⟨d, h'', e3, rfl, rfl⟩ := (hx a b (h ++ [.lst acc])).out
  exact ⟨srcZ_at (app_get h1) (app_get h2) (by simp [e1]) (by simp [e2]), _, rfl, e3⟩
@[simp] theorem in_tup {a : Str} {ds : List D} {h : Mh} : dIn false (.str a) (.tup ds) h = if ds.all flatD = true then .ok (.bl (ds.any fun y => eqF y (.str a))) h else .bad := by
  by_cases c : ds.all flatD = true
  · rw [if_pos c]; exact if_pos ⟨rfl, c⟩
  · rw [if_neg c]; exact if_neg fun z => c z.2
@[simp] theorem in_tupI {a : Int} {ds : List D} {h : Mh} : dIn false (.int a) (.tup ds) h = if ds.all flatD = true then .ok (.bl (ds.any fun y => eqF y (.int a))) h else .bad := by
  by_cases c : ds.all flatD = true
  · rw [if_pos c]; exact if_pos ⟨rfl, c⟩
  · rw [if_neg c]; exact if_neg fun z => c z.2
@[simp] theorem eqF_ss {a b : Str} : eqF (.str a) (.str b) = decide (a = b) := by
  show (a == b) = _
  by_cases c : a = b <;> simp [c]
@[simp] theorem eqF_ii {a b : Int} : eqF (.int a) (.int b) = decide (a = b) := by
  show (a == b) = _
  by_cases c : a = b <;> simp [c]
@[simp] theorem flat_s {a : Str} : flatD (.str a) = true := rfl
@[simp] theorem flat_i {a : Int} : flatD (.int a) = true := rfl
theorem ex_two {h a b : Mh} : Ex h (h ++ a ++ b) := Ex.app.trans Ex.app
theorem j_ext (o : Op) {xs ys : List Int} : o.j xs ys = o.j xs ys := rfl
open Classical in
@[simp] theorem add_ll {n m : Nat} {h : Mh} : dAdd (.ref n) (.ref m) h = match h[n]?, h[m]? with
    | some (.lst a), some (.lst b) => if LenE (a.length + b.length) then .ok (.ref h.length) (h ++ [.lst (a ++ b)]) else .bad
    | _, _ => .bad := by
  show (match h[n]?, h[m]? with
    | some (.lst a), some (.lst b) => if a.length + b.length ≤ sizeLine then .ok (.ref h.length) (h ++ [.lst (a ++ b)]) else .bad
    | _, _ => .bad : R D) = _
  cases h[n]? with
  | none => rfl
  | some o1 => cases h[m]? with
    | none => cases o1 <;> rfl
    | some o2 => cases o1 <;> cases o2 <;> first
      | rfl
      | (rename_i a b
         dsimp only
         by_cases c : LenE (a.length + b.length)
         · rw [if_pos c, if_pos c.r]
         · rw [if_neg c, if_neg (fun z => c ⟨z⟩)])
theorem cut_tail {ys : List Int} (h : 1 ≤ ys.length) : Mo.cutD (ys.map D.int) (some 1) none = (ys.drop 1).map D.int := by
  have l1 : HT.sIx (ys.map D.int).length 0 (some 1) = 1 := by
    have := HT.sIx_nat (ys.map D.int).length 0 1
    rw [List.length_map, Nat.min_eq_left (by omega)] at this
    rw [List.length_map]; exact this
  unfold Mo.cutD
  rw [l1, HT.sIx_none, ← List.map_drop, ← List.map_take, List.take_of_length_le (by simp)]
theorem tail_ok {h : Mh} (h4 : Mh) {n4 r3 n : Nat} {H : Mh} {c : Int} {sg : Sg} {tl : List Int} (hn : n = h4.length) (hH : H = h4 ++ [.lst []]) (gd : h4[n4]? = some (.lst (tl.map D.int))) (gc : h4[r3]? = some (.lst [.int c])) (X : Ex h h4) (l : tl.length ≤ 5) :
    (lcL (srcL n4 (tl.map D.int)) (gNm 5) mYes (mLit (D.int 0)) sg n (tl.map D.int) 0 H).wp fun a h_3 => (dAdd (.ref r3) a h_3).wp fun a h_4 => ∃ q, a = .ref q ∧ h_4[q]? = some (.lst ((c :: tl.map fun _ => (0 : Int)).map D.int)) ∧ Ex h h_4 := by
  subst hn hH
  refine wp_of (lc_ints (fun _ => 0) gd (by omega) (fun a h' _ => by simp)) ?_
  have l2 : LenE (1 + tl.length) := lenE (by omega)
  have l3 : LenE (tl.length + 1) := lenE (by omega)
  simp [app_get gc, l2, l3, Nat.add_comm]
  exact X.trans Ex.app
theorem joined_ok (o : Op) {h : Mh} {r1 r2 : Nat} {xs ys : List Int} (h1 : h[r1]? = some (.lst (xs.map D.int))) (h2 : h[r2]? = some (.lst (ys.map D.int))) (hl : xs.length = ys.length) (hs : xs.length ≤ 6) (h0 : 1 ≤ xs.length) :
    (f__law_joined [.str o.s, .ref r1, .ref r2] h).wp fun d h' => ∃ q, d = .ref q ∧ h'[q]? = some (.lst ((o.j xs ys).map D.int)) ∧ Ex h h' := by
  unfold f__law_joined m__law_joined
  simp [startD, List.replicate, h2, wipeD]
  refine wp_of (lc_ints (fun b => 1 - b) h2 (by omega) (fun a h' _ => by simp)) ?_
  have g1 := app_get (t := [.lst ((ys.map fun b => 1 - b).map D.int)]) h1
  have g2 := app_get (t := [.lst ((ys.map fun b => 1 - b).map D.int)]) h2
  have g3 : (h ++ [.lst ((negL ys).map D.int)])[h.length]? = some (.lst ((negL ys).map D.int)) := at_end
  have ln : xs.length = (negL ys).length := by simp [negL, hl]
  change (h ++ [.lst ((negL ys).map D.int)])[r1]? = _ at g1
  change (h ++ [.lst ((negL ys).map D.int)])[r2]? = _ at g2
  change RS.wp (RS.nx _ (h ++ [.lst ((negL ys).map D.int)])) _ _
  have X : Ex h (h ++ [.lst ((negL ys).map D.int)]) := Ex.app
  generalize hh : h ++ [.lst ((negL ys).map D.int)] = h3 at *
  have cut : Mo.cutD (ys.map D.int) (some 1) none = (ys.drop 1).map D.int := cut_tail (by omega)
  have lt : (ys.drop 1).length ≤ 5 := by rw [List.length_drop]; omega
  cases o
  case add =>
    simp [Op.s]
    refine wp_of (sum_eq g1 g2 hl hs) ?_
    simp [Op.j, atI, ixN]
    exact X.trans Ex.app
  case sub =>
    simp [Op.s]
    refine wp_of (sum_eq g1 g3 ln hs) ?_
    simp [Op.j, atI, ixN]
    exact X.trans Ex.app
  case and =>
    simp [Op.s, g1, g2, wipeD]
    refine wp_of (lc_zip Builtin.bitAnd g1 g2 hl (by omega) (fun a b h' => by simp)) ?_
    simp [Op.j]
    exact X.trans Ex.app
  case or =>
    simp [Op.s, g1, g2, wipeD]
    refine wp_of (lc_zip (fun a b => if a + b > 0 then 1 else 0) g1 g2 hl (by omega) (fun a b h' => by simp)) ?_
    simp [Op.j]
    exact X.trans Ex.app
  case xor =>
    simp [Op.s, g1, g2, wipeD]
    refine wp_of (lc_zip (fun a b => if a ≠ b then 1 else 0) g1 g2 hl (by omega) (fun a b h' => by simp)) ?_
    simp [Op.j]
    exact X.trans Ex.app
  case eq =>
    have g1' := g1
    cases ys with
    | nil => exact absurd h0 (by rw [hl]; simp)
    | cons y0 tl =>
      have g2' : h3[r2]? = some (.lst (.int y0 :: tl.map D.int)) := g2
      have cut' : Mo.cutD (.int y0 :: tl.map D.int) (some 1) none = tl.map D.int := cut
      have lt' : tl.length ≤ 5 := lt
      simp [Op.s, eq_lists g1 g2]
      by_cases e : xs = y0 :: tl
      all_goals simp [e, app_get g2', cut', wipeD]
      · refine (tail_ok (c := 1) (h3 ++ [.lst [.int 1], .lst (tl.map D.int)]) (by simp) (by simp) (by simp) (by simp) (X.trans Ex.app) lt').mono fun a h5 w => w.mono fun a h6 w => ?_
        obtain ⟨q, rfl, w1, w2⟩ := w
        simp [Op.j, e, w1, w2]
      · refine (tail_ok (c := 0) (h3 ++ [.lst [.int 0], .lst (tl.map D.int)]) (by simp) (by simp) (by simp) (by simp) (X.trans Ex.app) lt').mono fun a h5 w => w.mono fun a h6 w => ?_
        obtain ⟨q, rfl, w1, w2⟩ := w
        simp [Op.j, e, w1, w2]
  case lt =>
    cases ys with
    | nil => exact absurd h0 (by rw [hl]; simp)
    | cons y0 tl =>
      have g2' : h3[r2]? = some (.lst (.int y0 :: tl.map D.int)) := g2
      have cut' : Mo.cutD (.int y0 :: tl.map D.int) (some 1) none = tl.map D.int := cut
      have lt' : tl.length ≤ 5 := lt
      simp [Op.s]
      refine wp_of (sum_eq g1 g3 ln hs) ?_
      simp [atI, ixN]
      generalize hsum : sumL xs (negL (y0 :: tl)) 1 = S
      by_cases e : S.2 = 0
      all_goals simp [e, app_get g2', cut', wipeD]
      · refine (tail_ok (c := 1) (h3 ++ [.lst (S.1.map D.int), .lst [.ref h3.length, .int 0], .lst [.int 1], .lst (tl.map D.int)]) (by simp) (by simp) (by simp) (by simp) (X.trans Ex.app) lt').mono fun a h5 w => w.mono fun a h6 w => ?_
        obtain ⟨q, rfl, w1, w2⟩ := w
        simp [Op.j, hsum, e, w1, w2]
      · refine (tail_ok (c := 0) (h3 ++ [.lst (S.1.map D.int), .lst [.ref h3.length, .int S.2], .lst [.int 0], .lst (tl.map D.int)]) (by simp) (by simp) (by simp) (by simp) (X.trans Ex.app) lt').mono fun a h5 w => w.mono fun a h6 w => ?_
        obtain ⟨q, rfl, w1, w2⟩ := w
        simp [Op.j, hsum, e, w1, w2]
end K03

namespace K03
open PySem PySem.Spec PyProof.Rows L2 Mo
inductive Pre | inv | half | twice
def Pre.s : Pre → Str
  | .inv => Str.ofString "~"
  | .half => Str.ofString "half"
  | .twice => Str.ofString "twice"
def Pre.w (p : Pre) (x z : Int) : Int := match p with
  | .inv => z - 1 - x
  | .half => x / 2
  | .twice => x * 2 % z
inductive T
  | num (i : Int) | wrd (s : Str) | at (r : Str) (t : T) | pre (p : Pre) (t : T) | op (o : Op) (t u : T)
def T.d : T → D
  | .num i => .tup [.str (Str.ofString "number"), .int i]
  | .wrd s => .tup [.str (Str.ofString "word"), .str s]
  | .at r t => .tup [.str (Str.ofString "at"), .str r, t.d]
  | .pre p t => .tup [.str p.s, t.d]
  | .op o t u => .tup [.str o.s, t.d, u.d]
def T.dep : T → Nat
  | .num _ => 1
  | .wrd _ => 1
  | .at _ t => t.dep + 1
  | .pre _ t => t.dep + 1
  | .op _ t u => max t.dep u.dep + 1
def T.v (w : Nat) (W : Str → Int) (Rw : Str → List Int) : T → Int
  | .num i => i % 2 ^ w
  | .wrd s => W s % 2 ^ w
  | .at r t => ((Rw r)[(t.v w W Rw % ((Rw r).length : Int)).toNat]?.getD 0) % 2 ^ w
  | .pre p t => p.w (t.v w W Rw) (2 ^ w)
  | .op o t u => o.w (t.v w W Rw) (u.v w W Rw) (2 ^ w)
def T.ok (ws rs : List Str) : T → Prop
  | .num _ => True
  | .wrd s => s ∈ ws
  | .at r t => r ∈ rs ∧ t.ok ws rs
  | .pre _ t => t.ok ws rs
  | .op _ t u => t.ok ws rs ∧ u.ok ws rs
structure Env (h : Mh) (a a2 : Nat) (ws rs : List Str) (W : Str → Int) (Rw : Str → List Int) (lo : Nat) : Prop where
  wd : ∃ kvs, h[a]? = some (.dk kvs) ∧ ∀ s ∈ ws, valD kvs (.inr s) = some (.int (W s))
  rd : ∃ kvs, h[a2]? = some (.dk kvs) ∧ ∀ r ∈ rs, ∃ q, valD kvs (.inr r) = some (.ref q) ∧ h[q]? = some (.lst ((Rw r).map D.int)) ∧ lo ≤ (Rw r).length ∧ (Rw r).length ≤ 100
theorem Env.ex {h h' : Mh} {a a2 : Nat} {ws rs W Rw lo} (E : Env h a a2 ws rs W Rw lo) (X : Ex h h') : Env h' a a2 ws rs W Rw lo := by
  obtain ⟨⟨k1, e1, f1⟩, k2, e2, f2⟩ := E
  exact ⟨⟨k1, X.get e1, f1⟩, k2, X.get e2, fun r hr => by
    obtain ⟨q, x1, x2, x3⟩ := f2 r hr
    exact ⟨q, x1, X.get x2, x3⟩⟩
theorem prefix_ok (p : Pre) {x z : Int} {h : Mh} (z0 : 0 < z) : (f_prefix_worth [.str p.s, .int x, .int z] h).wp fun d h' => d = .int (p.w x z) ∧ h' = h := by
  unfold f_prefix_worth m_prefix_worth
  cases p <;> simp [startD, List.replicate, Pre.s, Pre.w, z0]
theorem sign_ok (o : Op) {x y z : Int} {h : Mh} (z0 : 0 < z) : (f_sign_worth [.str o.s, .int x, .int y, .int z] h).wp fun d h' => d = .int (o.w x y z) ∧ h' = h := by
  unfold f_sign_worth m_sign_worth
  cases o <;> simp [startD, List.replicate, Op.s, Op.w, z0]
theorem pre_all (p : Pre) {w : Nat} {x : Int} (w1 : 1 ≤ w) (w6 : w ≤ 6) (x0 : 0 ≤ x) (x1 : x < 2 ^ w) : 0 ≤ p.w x (2 ^ w) ∧ p.w x (2 ^ w) < 2 ^ w := by
  have hw : w = 1 ∨ w = 2 ∨ w = 3 ∨ w = 4 ∨ w = 5 ∨ w = 6 := by omega
  rcases hw with rfl | rfl | rfl | rfl | rfl | rfl <;> cases p <;> simp [Pre.w] at * <;> omega
theorem worth_ok {h : Mh} {a a2 w : Nat} {ws rs W Rw} (E : Env h a a2 ws rs W Rw 1) (w1 : 1 ≤ w) (w6 : w ≤ 6) : ∀ (t : T) (k : Nat), t.dep ≤ k → t.ok ws rs → ((f_worth k [t.d, .int (w : Int), .ref a, .ref a2] h).wp fun d h' => d = .int (t.v w W Rw) ∧ h' = h) ∧ 0 ≤ t.v w W Rw ∧ t.v w W Rw < 2 ^ w := by
  obtain ⟨⟨k1, e1, f1⟩, k2, e2, f2⟩ := E
  have hz : (0 : Int) < 2 ^ w := Int.pow_pos (by decide)
  have wl : (w : Int) ≤ 1000000 := by omega
  intro t
  induction t with
  | num i =>
    intro k hk _
    obtain ⟨k, rfl⟩ : ∃ j, k = j + 1 := ⟨k - 1, by simp only [T.dep] at hk; omega⟩
    refine ⟨?_, Int.emod_nonneg _ (by omega), Int.emod_lt_of_pos _ hz⟩
    unfold f_worth m_worth
    simp [startD, List.replicate, T.d, T.v, atI, ixN, wl, hz]
  | wrd s =>
    intro k hk ok
    obtain ⟨k, rfl⟩ : ∃ j, k = j + 1 := ⟨k - 1, by simp only [T.dep] at hk; omega⟩
    refine ⟨?_, Int.emod_nonneg _ (by omega), Int.emod_lt_of_pos _ hz⟩
    unfold f_worth m_worth
    have := f1 s ok
    simp [startD, List.replicate, T.d, T.v, atI, ixN, wl, hz, e1, this]
  | «at» r t ih =>
    intro k hk ok
    obtain ⟨k, rfl⟩ : ∃ j, k = j + 1 := ⟨k - 1, by simp only [T.dep] at hk; omega⟩
    refine ⟨?_, Int.emod_nonneg _ (by omega), Int.emod_lt_of_pos _ hz⟩
    obtain ⟨q, g1, g2, g3, g4⟩ := f2 r ok.1
    obtain ⟨i1, i2, i3⟩ := ih k (by simp only [T.dep] at hk; omega) ok.2
    have l0 : (0 : Int) < ((Rw r).length : Int) := by omega
    unfold f_worth m_worth
    simp [startD, List.replicate, T.d, T.v, atI, ixN, wl, hz, e2, g1]
    refine i1.mono fun d h' e' => ?_
    obtain ⟨rfl, rfl⟩ := e'
    have m0 : 0 ≤ t.v w W Rw % ((Rw r).length : Int) := Int.emod_nonneg _ (by omega)
    have m1 : t.v w W Rw % ((Rw r).length : Int) < ((Rw r).length : Int) := Int.emod_lt_of_pos _ l0
    have m2 : (t.v w W Rw % ((Rw r).length : Int)).toNat < (Rw r).length := by omega
    have mc : ModC ((Rw r).length : Int) := modC l0
    simp [g2, mc, atI, ixN, m0, m1, List.getElem?_eq_getElem m2, hz]
  | pre p t ih =>
    intro k hk ok
    obtain ⟨k, rfl⟩ : ∃ j, k = j + 1 := ⟨k - 1, by simp only [T.dep] at hk; omega⟩
    obtain ⟨i1, i2, i3⟩ := ih k (by simp only [T.dep] at hk; omega) ok
    refine ⟨?_, pre_all p w1 w6 i2 i3⟩
    unfold f_worth m_worth
    have ps : p.s = Str.ofString "~" ∨ p.s = Str.ofString "half" ∨ p.s = Str.ofString "twice" := by cases p <;> simp [Pre.s]
    have fin := prefix_ok p (x := t.v w W Rw) (h := h) hz
    rcases ps with e | e | e <;> rw [e] at fin <;>
    · simp [startD, List.replicate, T.d, T.v, atI, ixN, wl, hz, e, c_PREFIXES]
      refine i1.mono fun d h' e' => ?_
      obtain ⟨rfl, rfl⟩ := e'
      simp
      refine fin.mono fun d h' e' => ?_
      obtain ⟨rfl, rfl⟩ := e'
      simp
  | op o t u iht ihu =>
    intro k hk ok
    obtain ⟨k, rfl⟩ : ∃ j, k = j + 1 := ⟨k - 1, by simp only [T.dep] at hk; omega⟩
    obtain ⟨i1, i2, i3⟩ := iht k (by simp only [T.dep] at hk; omega) ok.1
    obtain ⟨j1, j2, j3⟩ := ihu k (by simp only [T.dep] at hk; omega) ok.2
    refine ⟨?_, (op_all o w1 w6 i2 i3 j2 j3).2⟩
    have fin := sign_ok o (x := t.v w W Rw) (y := u.v w W Rw) (h := h) hz
    unfold f_worth m_worth
    cases o <;> simp only [Op.s] at fin <;>
    · simp [startD, List.replicate, T.d, T.v, atI, ixN, wl, hz, Op.s, c_PREFIXES]
      refine i1.mono fun d h' e' => ?_
      obtain ⟨rfl, rfl⟩ := e'
      simp [atI, ixN]
      refine j1.mono fun d h' e' => ?_
      obtain ⟨rfl, rfl⟩ := e'
      simp
      refine fin.mono fun d h' e' => ?_
      obtain ⟨rfl, rfl⟩ := e'
      simp
end K03

namespace K03
open PySem PySem.Spec PyProof.Rows L2 Mo
theorem cut_butlast {xs : List Int} (h : 1 ≤ xs.length) : Mo.cutD (xs.map D.int) none (some (-1)) = (xs.take (xs.length - 1)).map D.int := by
  have l1 : HT.sIx (xs.map D.int).length (xs.map D.int).length (some (-1)) = xs.length - 1 := by
    have : HT.sIx (xs.map D.int).length (xs.map D.int).length (some (-1)) = (-1 + ((xs.map D.int).length : Int)).toNat := rfl
    rw [this, List.length_map]; omega
  unfold Mo.cutD
  rw [l1, HT.sIx_none, List.drop_zero, Nat.sub_zero, ← List.map_take]
theorem v_bd {w : Nat} {W : Str → Int} {Rw : Str → List Int} (w1 : 1 ≤ w) (w6 : w ≤ 6) : ∀ t : T, 0 ≤ t.v w W Rw ∧ t.v w W Rw < 2 ^ w := by
  have hz : (0 : Int) < 2 ^ w := Int.pow_pos (by decide)
  intro t
  induction t with
  | num i => exact ⟨Int.emod_nonneg _ (by omega), Int.emod_lt_of_pos _ hz⟩
  | wrd s => exact ⟨Int.emod_nonneg _ (by omega), Int.emod_lt_of_pos _ hz⟩
  | «at» r t ih => exact ⟨Int.emod_nonneg _ (by omega), Int.emod_lt_of_pos _ hz⟩
  | pre p t ih => exact pre_all p w1 w6 ih.1 ih.2
  | op o t u i1 i2 => exact (op_all o w1 w6 i1.1 i1.2 i2.1 i2.2).2
theorem due_ok {a a2 w : Nat} {ws rs W Rw} (w1 : 1 ≤ w) (w6 : w ≤ 6) : ∀ (t : T) (k : Nat) (h : Mh), Env h a a2 ws rs W Rw 2 → t.dep ≤ k → t.ok ws rs →
    (f__law_due k [t.d, .int (w : Int), .ref a, .ref a2] h).wp fun d h' => ∃ q, d = .ref q ∧ h'[q]? = some (.lst ((bitsL (t.v w W Rw) w).map D.int)) ∧ Ex h h' := by
  have wl : (w : Int) ≤ 1000000 := by omega
  intro t
  induction t with
  | num i =>
    intro k h E hk _
    obtain ⟨k, rfl⟩ : ∃ j, k = j + 1 := ⟨k - 1, by simp only [T.dep] at hk; omega⟩
    unfold f__law_due m__law_due
    simp [startD, List.replicate, T.d, T.v, atI, ixN, wl]
    refine wp_of (bits_eq (by omega)) ?_
    simp [bitsL_mod w1 w6]
    exact Ex.app
  | wrd s =>
    intro k h E hk ok
    obtain ⟨k, rfl⟩ : ∃ j, k = j + 1 := ⟨k - 1, by simp only [T.dep] at hk; omega⟩
    obtain ⟨k1, e1, f1⟩ := E.wd
    have := f1 s ok
    unfold f__law_due m__law_due
    simp [startD, List.replicate, T.d, T.v, atI, ixN, wl, e1, this]
    refine wp_of (bits_eq (by omega)) ?_
    simp [bitsL_mod w1 w6]
    exact Ex.app
  | «at» r t ih =>
    intro k h E hk ok
    obtain ⟨k, rfl⟩ : ∃ j, k = j + 1 := ⟨k - 1, by simp only [T.dep] at hk; omega⟩
    obtain ⟨k2, e2, f2⟩ := E.rd
    obtain ⟨q, g1, g2, g3, g4⟩ := f2 r ok.1
    obtain ⟨v0, v1⟩ := v_bd (W := W) (Rw := Rw) w1 w6 t
    have v64 : t.v w W Rw < 64 := by
      have hw : w = 1 ∨ w = 2 ∨ w = 3 ∨ w = 4 ∨ w = 5 ∨ w = 6 := by omega
      rcases hw with rfl | rfl | rfl | rfl | rfl | rfl <;> simp at v1 <;> omega
    have l0 : (0 : Int) < ((Rw r).length : Int) := by omega
    unfold f__law_due m__law_due
    simp [startD, List.replicate, T.d, T.v, atI, ixN, wl, e2, g1]
    refine (ih k h E (by simp only [T.dep] at hk; omega) ok.2).mono fun d h1 e' => ?_
    obtain ⟨p, rfl, hp, X⟩ := e'
    simp
    refine wp_of (number_eq hp bits_01 (by rw [bits_len]; omega)) ?_
    rw [numL_bits w1 w6 v0 v1]
    have g2' := X.get g2
    have i40 : InR 40 := inR_of (by decide) (by decide)
    simp [i40]
    generalize hv : t.v w W Rw = v at *
    generalize hn : ((Rw r).length : Int) = n at *
    refine loop (fun j sg h' => (∃ s y, sg = [some (.tup [.str (Str.ofString "at"), .str r, t.d]), some (.int (w : Int)), some (.ref a), some (.ref a2), some (.str (Str.ofString "at")), some (.ref q), some (.int s), y, none, none] ∧ 0 ≤ s ∧ s % n = v % n ∧ (s < n ∨ s + 2 * (j : Int) ≤ v)) ∧ h' = h1) ⟨⟨v, none, rfl, v0, rfl, .inr (by simp)⟩, rfl⟩ (fun j d sg h' e ⟨⟨s, y, es, s0, s1, s2⟩, eh⟩ => ?_) (fun sg h' ⟨⟨s, y, es, s0, s1, s2⟩, eh⟩ => ?_)
    · subst es eh
      refine ⟨trivial, _, rfl, ?_⟩
      simp [g2', hn]
      by_cases c : n ≤ s
      · simp [c, g2', hn]
        exact ⟨s1, .inr (by omega)⟩
      · simp [c]
        exact ⟨s0, s1, .inl (by omega)⟩
    · subst es eh
      have sn : s < n := by
        rcases s2 with s2 | s2
        · exact s2
        · simp at s2; omega
      have e : s = v % n := by rw [← s1, Int.emod_eq_of_lt s0 sn]
      refine ⟨trivial, ?_⟩
      have sl : s.toNat < (Rw r).length := by omega
      simp [g2', hn, atI, ixN, s0, sn, List.getElem?_eq_getElem sl]
      refine wp_of (bits_eq (by omega)) ?_
      rw [← e]
      simp [bitsL_mod w1 w6, List.getElem?_eq_getElem sl]
      exact X.trans Ex.app
  | pre p t ih =>
    intro k h E hk ok
    obtain ⟨k, rfl⟩ : ∃ j, k = j + 1 := ⟨k - 1, by simp only [T.dep] at hk; omega⟩
    obtain ⟨v0, v1⟩ := v_bd (W := W) (Rw := Rw) w1 w6 t
    have hb : 1 ≤ (bitsL (t.v w W Rw) w).length := by rw [bits_len]; exact w1
    unfold f__law_due m__law_due
    cases p
    case inv =>
      simp [startD, List.replicate, T.d, T.v, atI, ixN, wl, Pre.s, Pre.w]
      refine (ih k h E (by simp only [T.dep] at hk; omega) ok).mono fun d h1 e' => ?_
      obtain ⟨q, rfl, hq, X⟩ := e'
      simp [hq, wipeD]
      refine wp_of (lc_ints (fun b => 1 - b) hq (by rw [bits_len]; omega) (fun a h' _ => by simp)) ?_
      have := bits_neg w1 w6 v0 v1
      unfold negL at this
      simp [this]
      exact X.trans Ex.app
    case half =>
      simp [startD, List.replicate, T.d, T.v, atI, ixN, wl, Pre.s, Pre.w]
      refine (ih k h E (by simp only [T.dep] at hk; omega) ok).mono fun d h1 e' => ?_
      obtain ⟨q, rfl, hq, X⟩ := e'
      simp [hq, cut_tail hb]
      have := bits_half w1 w6 v0 v1
      rw [← this]
      refine ⟨lenE (by rw [bits_len]; omega), by simp, X.trans Ex.app⟩
    case twice =>
      simp [startD, List.replicate, T.d, T.v, atI, ixN, wl, Pre.s, Pre.w]
      refine (ih k h E (by simp only [T.dep] at hk; omega) ok).mono fun d h1 e' => ?_
      obtain ⟨q, rfl, hq, X⟩ := e'
      simp [app_get hq, cut_butlast hb]
      have := bits_twice w1 w6 v0 v1
      rw [← this]
      refine ⟨lenE (by rw [bits_len]; omega), by simp [bits_len], X.trans Ex.app⟩
  | op o t u iht ihu =>
    intro k h E hk ok
    obtain ⟨k, rfl⟩ : ∃ j, k = j + 1 := ⟨k - 1, by simp only [T.dep] at hk; omega⟩
    obtain ⟨v0, v1⟩ := v_bd (W := W) (Rw := Rw) w1 w6 t
    obtain ⟨u0, u1⟩ := v_bd (W := W) (Rw := Rw) w1 w6 u
    have fin := op_all o w1 w6 v0 v1 u0 u1
    unfold f__law_due m__law_due
    have go := fun (h : Mh) (q1 q2 : Nat) (h1 : h[q1]? = some (.lst ((bitsL (t.v w W Rw) w).map D.int))) (h2 : h[q2]? = some (.lst ((bitsL (u.v w W Rw) w).map D.int))) => joined_ok o h1 h2 (by rw [bits_len, bits_len]) (by rw [bits_len]; exact w6) (by rw [bits_len]; exact w1)
    rw [fin.1] at go
    cases o <;> simp only [Op.s] at go <;>
    · simp [startD, List.replicate, T.d, T.v, atI, ixN, wl, Op.s]
      refine (iht k h E (by simp only [T.dep] at hk; omega) ok.1).mono fun d h1 e' => ?_
      obtain ⟨q, rfl, hq, X⟩ := e'
      simp [atI, ixN]
      refine (ihu k h1 (E.ex X) (by simp only [T.dep] at hk; omega) ok.2).mono fun d h2 e' => ?_
      obtain ⟨q2, rfl, hq2, X2⟩ := e'
      simp
      refine (go h2 q q2 (X2.get hq) hq2).mono fun d h3 e' => ?_
      obtain ⟨q3, rfl, hq3, X3⟩ := e'
      simp [hq3]
      exact X.trans (X2.trans X3)
end K03

namespace K03
open PySem PySem.Spec PyProof.Rows L2 Mo
theorem like_int {k : Nat} {x y : Int} {h : Mh} : (f__law_like (k + 1) [.int x, .int y] h).wp fun d h' => d = .bl (decide (x = y)) ∧ h' = h := by
  unfold f__law_like m__law_like
  simp [startD, List.replicate, dIs, dIsi1, dIsi2, tyD, knT, isiB]
theorem bools_true : ∀ n : Nat, boolsOf (List.replicate n (.bl true)) = some (List.replicate n true)
  | 0 => rfl
  | n + 1 => by rw [List.replicate_succ, List.replicate_succ]; show (boolsOf _).map _ = _; rw [bools_true n]; rfl
theorem like_list {k : Nat} {r1 r2 : Nat} {xs : List Int} {h : Mh} (h1 : h[r1]? = some (.lst (xs.map D.int))) (h2 : h[r2]? = some (.lst (xs.map D.int))) (hl : xs.length ≤ 100) : (f__law_like (k + 2) [.ref r1, .ref r2] h).wp fun d h' => d = .bl true ∧ Ex h h' := by
  unfold f__law_like m__law_like
  simp [startD, List.replicate, dIs, dIsi1, dIsi2, tyD, knT, isiB, h1, h2, wipeD]
  refine wp_of (lc_map (fun _ => .bl true) (Nat.le_trans (by rw [zip_len rfl]; omega) line_le) (fun j x acc e => ?_) (fun acc => srcZ_fin (app_get h1) (app_get h2))) ?_
  · obtain ⟨a, b, e1, e2, rfl⟩ := zip_ints e
    rw [e1] at e2; cases e2
    refine ⟨srcZ_at (app_get h1) (app_get h2) (by simp [e1]) (by simp [e1]), _, rfl, ?_⟩
    have : ((mCall 2 (f__law_like (k + 1)) (mCons (mVar 3) (mCons (mVar 4) mNil)) []) [some (.ref r1), some (.ref r2), none, some (.int a), some (.int a)] (h ++ [.lst acc])).wp fun d h' => d = .bl true ∧ h' = h ++ [.lst acc] := by
      simp
      refine like_int.mono fun d h' e => ?_
      simpa using e
    obtain ⟨d, h', e3, rfl, rfl⟩ := this.out
    exact e3
  · simp only [List.map_const', zip_len rfl]
    simp [dAll, bools_true]
    exact Ex.app
theorem sorted_ok {h : Mh} {n : Nat} {kvs : List (Key × D)} {ks : List Str} (e : h[n]? = some (.dk kvs)) (k : keysS kvs = some ks) (l : ks.length < 64) : dSortedD [.ref n] h = .ok (.ref h.length) (h ++ [.lst ((sortS ks).map D.str)]) := by
  unfold dSortedD
  simp only [e, k]
  exact if_pos l
theorem putD_new {kvs : List (Key × D)} {k : Key} {v : D} (h : ∀ p ∈ kvs, p.1 ≠ k) : putD kvs k v = kvs ++ [(k, v)] := by
  unfold putD
  rw [if_neg]
  intro z
  obtain ⟨p, hp, e⟩ := List.any_eq_true.mp z
  exact h p hp (of_decide_eq_true e)
theorem valD_app_r {a b : List (Key × D)} {k : Key} (h : ∀ p ∈ a, p.1 ≠ k) : valD (a ++ b) k = valD b k := by
  unfold valD
  rw [List.find?_append, List.find?_eq_none.mpr (fun p hp => by simp [h p hp])]
  rfl
theorem valD_app_l {a b : List (Key × D)} {k : Key} {d : D} (h : valD a k = some d) : valD (a ++ b) k = some d := by
  unfold valD at *
  obtain ⟨p, e, f⟩ := Option.map_eq_some_iff.mp h
  rw [List.find?_append, e]
  simp [f]
theorem pdl_map {n : Nat} {h : Mh} {F : Str → D} {G : Str → PyData} : ∀ {l : List Str}, (∀ s ∈ l, pd n h (F s) = some (G s)) → pdl (pd n h) (l.map F) = some (l.map G)
  | [], _ => rfl
  | s :: l, e => by
    have ih := pdl_map (l := l) (fun s hs => e s (List.mem_cons_of_mem _ hs))
    simp only [List.map_cons, pdl, e s (by simp), ih]
theorem sort_mem {ks : List Str} {s : Str} : s ∈ sortS ks ↔ s ∈ ks := List.mem_mergeSort
theorem sort_len {ks : List Str} : (sortS ks).length = ks.length := List.length_mergeSort ..
theorem sort_nodup {ks : List Str} (h : ks.Nodup) : (sortS ks).Nodup := (List.mergeSort_perm ks leS).nodup_iff.mpr h
end K03

namespace K03
open PySem PySem.Spec PyProof.Rows L2 Mo
structure Ask (h : Mh) (a a2 nm : Nat) (ws rs : List Str) (W : Str → Int) (Rw : Str → List Int) (names : List Str) : Prop where
  wd : ∃ kvs, h[a]? = some (.dk kvs) ∧ keysS kvs = some ws ∧ ∀ s ∈ ws, valD kvs (.inr s) = some (.int (W s))
  rd : ∃ kvs, h[a2]? = some (.dk kvs) ∧ keysS kvs = some rs ∧ ∀ r ∈ rs, ∃ q, valD kvs (.inr r) = some (.ref q) ∧ h[q]? = some (.lst ((Rw r).map D.int)) ∧ 2 ≤ (Rw r).length ∧ (Rw r).length ≤ 100
  nm : h[nm]? = some (.lst (names.map D.str))
  wn : ws.Nodup
  rn : rs.Nodup
  wl : ws.length ≤ 10
  rl : rs.length ≤ 10
  n5 : ∃ s, names[5]? = some s ∧ s ∉ ws
  n6 : ∃ s, names[6]? = some s ∧ s ∉ rs
theorem Ask.ex {h h' : Mh} {a a2 nm ws rs W Rw names} (E : Ask h a a2 nm ws rs W Rw names) (X : Ex h h') : Ask h' a a2 nm ws rs W Rw names := by
  obtain ⟨⟨k1, e1, f1⟩, ⟨k2, e2, g2, f2⟩, h3, h4, h5, h6, h7, h8, h9⟩ := E
  exact ⟨⟨k1, X.get e1, f1⟩, ⟨k2, X.get e2, g2, fun r hr => by
    obtain ⟨q, x1, x2, x3⟩ := f2 r hr
    exact ⟨q, x1, X.get x2, x3⟩⟩, X.get h3, h4, h5, h6, h7, h8, h9⟩
theorem Ask.env {h : Mh} {a a2 nm ws rs W Rw names} (E : Ask h a a2 nm ws rs W Rw names) : Env h a a2 ws rs W Rw 2 := by
  obtain ⟨⟨k1, e1, g1, f1⟩, ⟨k2, e2, g2, f2⟩, _⟩ := E
  exact ⟨⟨k1, e1, f1⟩, k2, e2, f2⟩
theorem fill_loop {h : Mh} {n r i : Nat} {ws : List Str} {D0 : List (Key × D)} {N : Sg → Mh → Prop} {T : D → Mh → Prop} {x10 : Option D} {pre post : List (Option D)} {m : Sg → Mh → R D} (P : Str → D → Mh → Prop)
    (h0 : pre.length = 10) (pv : pre[i]? = some (some (.ref n)))
    (hr : h[r]? = some (.lst (ws.map D.str))) (hn : h[n]? = some (.dk D0)) (rn : r ≠ n)
    (nd : ws.Nodup) (hD : ∀ s ∈ ws, ∀ p ∈ D0, p.1 ≠ .inr s) (lD : D0.length ≤ 10) (lw : ws.length ≤ 10)
    (hm : ∀ s ∈ ws, ∀ h', Gr n h h' → (m (pre ++ some (.str s) :: post) h').wp fun v h'' => P s v h'' ∧ Ex h' h'')
    (st : ∀ s v h1 h2, Gr n h h1 → P s v h1 → Gr n h1 h2 → P s v h2)
    (fin : ∀ x kv h', Gr n h h' → h'[n]? = some (.dk (D0 ++ kv)) → kv.map (·.1) = ws.map Sum.inr → (∀ s ∈ ws, ∃ v, valD kv (.inr s) = some v ∧ P s v h') → N (pre ++ x :: post) h') :
    (forL (srcL r (ws.map D.str)) (gNm 10) (sPut dPutD (mVar i) (mVar 10) m) (ws.map D.str) 0 (pre ++ x10 :: post) h).wp N T := by
  refine loop (fun j sg h' => ∃ x kv, sg = pre ++ x :: post ∧ Gr n h h' ∧ h'[n]? = some (.dk (D0 ++ kv)) ∧ kv.map (·.1) = (ws.take j).map Sum.inr ∧ ∀ s ∈ ws.take j, ∃ v, valD kv (.inr s) = some v ∧ P s v h') ⟨x10, [], rfl, Gr.rfl, by rw [hn, List.append_nil], by simp, by simp⟩ (fun j d sg h' e ⟨x, kv, es, G, eh, ek, ev⟩ => ?_) (fun sg h' ⟨x, kv, es, G, eh, ek, ev⟩ => ?_)
  · subst es
    rw [List.getElem?_map] at e
    obtain ⟨s, e1, rfl⟩ := Option.map_eq_some_iff.mp e
    have sm : s ∈ ws := List.mem_of_getElem? e1
    refine ⟨srcL_at (G.get rn hr) (by rw [List.getElem?_map, e1]; rfl), _, rfl, ?_⟩
    have il : i < 10 := by have := (List.getElem?_eq_some_iff.mp pv).1; omega
    have s2 : ((pre ++ x :: post).set 10 (some (.str s))) = pre ++ some (.str s) :: post := by
      rw [List.set_append_right _ _ (by omega), h0]; rfl
    have q6 : (pre ++ some (.str s) :: post)[i]? = some (some (.ref n)) := by rw [List.getElem?_append_left (by omega)]; exact pv
    have q10 : (pre ++ some (.str s) :: post)[10]? = some (some (.str s)) := by rw [List.getElem?_append_right (by omega), h0]; rfl
    have lk : kv.length ≤ 10 := by
      have := congrArg List.length ek
      simp at this; omega
    have lc : LenC (D0 ++ kv).length := lenC (by simp; omega)
    have snot : s ∉ ws.take j := by
      intro hs
      obtain ⟨i, hi, e2⟩ := List.mem_iff_getElem.mp hs
      have jl := (List.getElem?_eq_some_iff.mp e1).1
      have e3 := (List.getElem?_eq_some_iff.mp e1).2
      simp at hi
      rw [List.getElem_take] at e2
      have := (List.getElem_inj nd).mp (e2.trans e3.symm)
      omega
    have kno : ∀ p ∈ kv, p.1 ≠ Sum.inr s := fun p hp z => by
      have : p.1 ∈ kv.map (·.1) := List.mem_map_of_mem hp
      rw [ek, z] at this
      obtain ⟨s', h1, h2⟩ := List.mem_map.mp this
      cases h2
      exact snot h1
    have knot : ∀ p ∈ D0 ++ kv, p.1 ≠ Sum.inr s := fun p hp => by
      rcases List.mem_append.mp hp with hp | hp
      · exact hD s sm p hp
      · exact kno p hp
    rw [s2, w_put, wp_th]
    refine (hm s sm h' G).mono fun v h2 ⟨pvv, X⟩ => ?_
    have eh2 := X.get eh
    have nl := lt_of eh2
    simp only [wp_th, w_var, q6, q10, wp_ok, w_toRS, l_putD, key_s, eh2, if_pos lc]
    have tk : ws.take (j + 1) = ws.take j ++ [s] := by rw [List.take_add_one, e1]; rfl
    have G2 : Gr n h2 (h2.set n (.dk (D0 ++ (kv ++ [(.inr s, v)])))) := Gr.rfl.put (.inr rfl)
    refine ⟨some (.str s), kv ++ [(.inr s, v)], rfl, ?_, ?_, ?_, ?_⟩
    · rw [putD_new knot, List.append_assoc]
      exact (G.trans X.gr).trans G2
    · rw [putD_new knot, List.append_assoc]; exact set_at nl
    · rw [tk, List.map_append, List.map_append, ek]; rfl
    · rw [putD_new knot, List.append_assoc]
      intro s' hs'
      rw [tk] at hs'
      rcases List.mem_append.mp hs' with hs' | hs'
      · obtain ⟨v', e1, e2⟩ := ev s' hs'
        exact ⟨v', valD_app_l e1, st _ _ _ _ G e2 (X.gr.trans G2)⟩
      · have : s' = s := by simpa using hs'
        subst this
        exact ⟨v, by rw [valD_app_r kno]; simp [valD], st _ _ _ _ (G.trans X.gr) pvv G2⟩
  · subst es
    rw [List.length_map, List.take_length] at ek ev
    exact ⟨srcL_fin (G.get rn hr), fin x kv h' G eh ek ev⟩
end K03

namespace K03
open PySem PySem.Spec PyProof.Rows L2 Mo
@[simp] theorem l_rev {n : Nat} {h : Mh} : dReverse (.ref n) [] h = match h[n]? with
    | some (.lst xs) => .ok .non (h.set n (.lst xs.reverse))
    | _ => .bad := rfl
theorem step {m n : Sg → Mh → RS} {sg : Sg} {h : Mh} {N : Sg → Mh → Prop} {T : D → Mh → Prop} {z y} (M : Sg → Mh → Prop) (w : (m sg h).wp M (fun _ _ => False)) (k : ∀ sg h, M sg h → (n sg h).wp N T) : (sSeq m n sg h).wp N T z y := by
  rw [w_seq, wp_ths]
  exact w.mono (fun sg h p => k sg h p) (fun _ _ z => z.elim)
def Good (p : PyData) : Prop := PyData.canLay0 p = true ∧ p.depth ≤ 1 ∧ PyData.eqv p p = true
theorem good_int (x : Int) : Good (.int x) := by simp [Good, PyData.canLay0, PyData.depth, PyData.eqv]
theorem good_ints (xs : List Int) : Good (.list (xs.map PyData.int)) := by
  have := lay_ints xs
  simp [Good, PyData.canLay0, PyData.depth, PyData.eqv, this.1, this.2, eqv_ints]
theorem good_all : ∀ ps : List PyData, (∀ p ∈ ps, Good p) → PyData.canLayAll0 ps = true ∧ PyData.depthAll ps ≤ 1 ∧ PyData.eqvAll ps ps = true
  | [], _ => by simp [PyData.canLayAll0, PyData.depthAll, PyData.eqvAll]
  | p :: ps, h => by
    obtain ⟨a, b, c⟩ := h p (by simp)
    obtain ⟨d, e, f⟩ := good_all ps (fun q hq => h q (by simp [hq]))
    simp [PyData.canLayAll0, PyData.depthAll, PyData.eqvAll, a, c, d, f]
    omega
theorem eq_same {h : Mh} {r1 r2 : Nat} {L1 L2 : List D} {ps : List PyData} (h1 : h[r1]? = some (.lst L1)) (h2 : h[r2]? = some (.lst L2)) (p1 : pdl (pd 65 h) L1 = some ps) (p2 : pdl (pd 65 h) L2 = some ps) (g : ∀ p ∈ ps, Good p) : dE false (.ref r1) (.ref r2) h = .ok (.bl true) h := by
  obtain ⟨a, b, c⟩ := good_all ps g
  have sh : SeqAt.shaped (.list ps) = true := by simp [SeqAt.shaped, PyData.canLay0, PyData.depth, a]; omega
  have pdr : ∀ r L, h[r]? = some (.lst L) → pdl (pd 65 h) L = some ps → pd 66 h (.ref r) = some (.list ps) := fun r L e p => by
    show (match h[r]? with
      | some (.lst ds) => (pdl (pd 65 h) ds).map PyData.list
      | some (.fls ds) => (pdl (pd 65 h) ds).map PyData.list
      | _ => none) = _
    rw [e]
    show (pdl (pd 65 h) L).map PyData.list = _
    rw [p]; rfl
  rw [eq_ok (pdr r1 L1 h1 p1) (pdr r2 L2 h2 p2) sh sh rfl]
  simp [PyData.eqv, c]
theorem comp_sorted {sg : Sg} {h : Mh} {a b i n : Nat} {kvs kn : List (Key × D)} {ks : List Str} (sl : 10 < sg.length) (i10 : i < 10) (n10 : n < 10) (si : sg[i]? = some (some (.ref a))) (sn : sg[n]? = some (some (.ref b))) (e : h[a]? = some (.dk kvs)) (k : keysS kvs = some ks) (l : ks.length < 64) (eb : h[b]? = some (.dk kn)) (hv : ∀ s ∈ ks, ∃ v, valD kn (.inr s) = some v) :
    (mLc (mIter (mBi dSortedD (mCons (mVar i) mNil))) (gNm 10) mYes (m2 dGet (mVar n) (mVar 10)) [10] sg h).wp fun d h' => ∃ r, d = .ref r ∧ h'[r]? = some (.lst ((sortS ks).map fun s => (valD kn (.inr s)).getD .non)) ∧ Ex h h' := by
  rw [w_lc, wp_bind, w_iter, wp_bind, w_bi, wp_bind, w_cons, wp_bind, w_var, si]
  simp only [wp_ok, wp_bind, w_nil]
  refine wp_of (sorted_ok e k l) ?_
  rw [l_iter, at_end]
  simp only [wp_ok, srcL_items]
  have ee := app_get (t := [.lst ((sortS ks).map D.str)]) eb
  have ex : Ex h (h ++ [.lst ((sortS ks).map D.str)]) := Ex.app
  have en : (h ++ [.lst ((sortS ks).map D.str)])[h.length]? = some (.lst ((sortS ks).map D.str)) := at_end
  generalize h ++ [.lst ((sortS ks).map D.str)] = h2 at *
  have F : ∃ F : D → D, ∀ s, F (.str s) = (valD kn (.inr s)).getD .non := ⟨fun d => match d with
    | .str s => (valD kn (.inr s)).getD .non
    | _ => .non, fun s => rfl⟩
  obtain ⟨F, hF⟩ := F
  have mm : (sortS ks).map (fun s => (valD kn (.inr s)).getD .non) = ((sortS ks).map D.str).map F := by
    rw [List.map_map]; exact List.map_congr_left fun s _ => (hF s).symm
  rw [mm]
  refine wp_of (lc_map F (Nat.le_trans (by rw [List.length_map, sort_len]; omega) line_le) (fun j x acc e1 => ?_) (fun acc => srcL_fin (app_get en))) ⟨_, rfl, at_end, ex.trans Ex.app⟩
  rw [List.getElem?_map] at e1
  obtain ⟨s, e2, rfl⟩ := Option.map_eq_some_iff.mp e1
  refine ⟨srcL_at (app_get en) (by rw [List.getElem?_map, e2]; rfl), _, rfl, ?_⟩
  obtain ⟨v, hvv⟩ := hv s (sort_mem.mp (List.mem_of_getElem? e2))
  have w10 : ((wipeD sg [10]).set 10 (some (.str s)))[10]? = some (some (.str s)) := by
    simp [wipeD, sl]
  have wn : ((wipeD sg [10]).set 10 (some (.str s)))[n]? = some (some (.ref b)) := by
    simp only [wipeD]
    rw [List.getElem?_set_ne (by omega), List.getElem?_set_ne (by omega)]; exact sn
  have : (m2 dGet (mVar n) (mVar 10) ((wipeD sg [10]).set 10 (some (.str s))) (h2 ++ [.lst acc])).wp fun d h' => d = F (.str s) ∧ h' = h2 ++ [.lst acc] := by
    simp only [w_m2, wp_bind, w_var, w10, wn, wp_ok, l_get, app_get ee, key_s, hvv, hF]
    exact ⟨rfl, trivial⟩
  obtain ⟨d, h', e3, rfl, rfl⟩ := this.out
  exact e3
theorem keys_len {kvs : List (Key × D)} {ks : List Str} (k : keysS kvs = some ks) : kvs.length = ks.length := by
  have := congrArg List.length (keysS_eq k)
  simpa using this
theorem asked_ok {h : Mh} {a a2 nm w : Nat} {ws rs : List Str} {W : Str → Int} {Rw : Str → List Int} {names : List Str} (A : Ask h a a2 nm ws rs W Rw names) (w1 : 1 ≤ w) (w6 : w ≤ 6) {t : T} (td : t.dep ≤ 64) (tk : t.ok ws rs) {tn : Int} (tn0 : 0 ≤ tn) (tn2 : tn ≤ 2) :
    (f__law_asked [t.d, .int (w : Int), .ref a, .ref a2, .ref nm, .int tn] h).wp fun d h' => d = .int (t.v w W Rw) ∧ Ex h h' := by
  obtain ⟨⟨kvs, ea, ka, va⟩, ⟨kv2, eb, kb, vb⟩, en, wn, rn, wl, rl, ⟨s5, e5, n5⟩, ⟨s6, e6, n6⟩⟩ := A
  unfold f__law_asked m__law_asked
  rw [w_run]
  refine step (fun sg h1 => sg = [some t.d, some (.int (w : Int)), some (.ref a), some (.ref a2), some (.ref nm), some (.int tn), some (.ref h.length), some (.ref (h.length + 1)), none, none, none, none, none] ∧ h1 = h ++ [.dk [], .dk []]) (by simp [startD, List.replicate]) fun sg h1 e => ?_
  obtain ⟨rfl, rfl⟩ := e
  refine step (fun sg h1 => sg = [some t.d, some (.int (w : Int)), some (.ref a), some (.ref a2), some (.ref nm), some (.int tn), some (.ref h.length), some (.ref (h.length + 1)), none, none, none, none, none] ∧ Ex h h1 ∧ ∃ D0 D1, h1[h.length]? = some (.dk D0) ∧ h1[h.length + 1]? = some (.dk D1) ∧ (∀ s ∈ ws, ∀ p ∈ D0, p.1 ≠ .inr s) ∧ (∀ s ∈ rs, ∀ p ∈ D1, p.1 ≠ .inr s) ∧ D0.length = (if tn = 0 then 1 else 0) ∧ D1.length = (if tn = 0 then 1 else 0)) ?_ fun sg h1 e => ?_
  · by_cases c : tn = 0
    · subst c
      have j5 := (List.getElem?_eq_some_iff.mp e5).1
      have j6 := (List.getElem?_eq_some_iff.mp e6).1
      have a5 : atI (names.map D.str) 5 = some (.str s5) := atI_of (j := 5) rfl (by simp [e5])
      have a6 : atI (names.map D.str) 6 = some (.str s6) := atI_of (j := 6) rfl (by simp [e6])
      have g : ∀ o : MO, (((h ++ [MO.dk [], MO.dk []]).set h.length o) ++ [.lst [.int 1, .int 0]])[nm]? = some (.lst (names.map D.str)) := fun o => by
        refine app_get ?_
        rw [set_off (by have := lt_of en; omega)]
        exact app_get en
      simp [app_get en, a5, List.set_append]
      simp [app_get en, a6, List.set_append]
      refine ⟨Ex.app, fun s hs p v hab => ?_, fun s hs p v hab => ?_, by simp [putD], by simp [putD]⟩
      · simp [putD] at hab
        rw [hab.1]; intro z; cases z; exact n5 hs
      · simp [putD] at hab
        rw [hab.1]; intro z; cases z; exact n6 hs
    · simp [c]
      exact Ex.app
  obtain ⟨rfl, X1, D0, D1, g1, g2, k0, k1, l0, l1⟩ := e
  refine step (fun sg h2 => sg = [some t.d, some (.int (w : Int)), some (.ref a), some (.ref a2), some (.ref nm), some (.int tn), some (.ref h.length), some (.ref (h.length + 1)), some (.ref h1.length), some (.ref (h1.length + 1)), none, none, none] ∧ h2 = h1 ++ [.lst ((sortS ws).map D.str), .lst ((sortS rs).map D.str)]) ?_ fun sg h2 e => ?_
  · simp
    refine wp_of (sorted_ok (X1.get ea) ka (by omega)) ?_
    simp
    refine wp_of (sorted_ok (app_get (X1.get eb)) kb (by omega)) ?_
    simp
  obtain ⟨rfl, eh2⟩ := e
  have X2 : Ex h1 h2 := by rw [eh2]; exact Ex.app
  refine step (fun sg h3 => sg = [some t.d, some (.int (w : Int)), some (.ref a), some (.ref a2), some (.ref nm), some (.int tn), some (.ref h.length), some (.ref (h.length + 1)), some (.ref h1.length), some (.ref (h1.length + 1)), none, none, none] ∧ Ex h1 h3 ∧ ∃ f1 f2 : List Str, h3[h1.length]? = some (.lst (f1.map D.str)) ∧ h3[h1.length + 1]? = some (.lst (f2.map D.str)) ∧ f1.Perm ws ∧ f2.Perm rs) ?_ fun sg h3 e => ?_
  · have p1 := List.mergeSort_perm ws leS
    have p2 := List.mergeSort_perm rs leS
    by_cases c : tn = 1
    · subst eh2
      simp [c, List.set_append]
      refine ⟨Ex.app, (sortS ws).reverse, by rw [List.map_reverse], (sortS rs).reverse, by rw [List.map_reverse], (List.reverse_perm _).trans p1, (List.reverse_perm _).trans p2⟩
    · subst eh2
      simp [c]
      exact ⟨Ex.app, sortS ws, rfl, sortS rs, rfl, p1, p2⟩
  obtain ⟨rfl, X3, f1, f2, q1, q2, P1, P2⟩ := e
  have Xh := X1.trans X3
  have hl1 := lt_of g1
  have hl2 := lt_of g2
  have al := lt_of ea
  have bl := lt_of eb
  refine step (fun sg h4 => ∃ x kv, sg = [some t.d, some (.int (w : Int)), some (.ref a), some (.ref a2), some (.ref nm), some (.int tn), some (.ref h.length), some (.ref (h.length + 1)), some (.ref h1.length), some (.ref (h1.length + 1)), x, none, none] ∧ Gr h.length h3 h4 ∧ h4[h.length]? = some (.dk (D0 ++ kv)) ∧ kv.length = ws.length ∧ ∀ s ∈ ws, valD kv (.inr s) = some (.int (W s))) ?_ fun sg h4 e => ?_
  · rw [w_for, wp_th]
    simp [q1]
    refine fill_loop (pre := [some t.d, some (.int (w : Int)), some (.ref a), some (.ref a2), some (.ref nm), some (.int tn), some (.ref h.length), some (.ref (h.length + 1)), some (.ref h1.length), some (.ref (h1.length + 1))]) (n := h.length) (fun s v _ => v = .int (W s)) rfl rfl q1 (X3.get g1) (by omega) (P1.nodup_iff.mpr wn) (fun s hs => k0 s (P1.mem_iff.mp hs)) (by rw [l0]; split <;> omega) (by rw [P1.length_eq]; exact wl) (fun s hs h' G => ?_) (fun _ _ _ _ _ e _ => e) (fun x kv h' G eh ek ev => ?_)
    · have := G.get (by omega) (Xh.get ea)
      simp [this, va s (P1.mem_iff.mp hs)]
      exact Ex.rfl
    · refine ⟨x, kv, rfl, G, eh, by have := congrArg List.length ek; simp at this; rw [this, P1.length_eq], fun s hs => ?_⟩
      obtain ⟨v, v1, v2⟩ := ev s (P1.mem_iff.mpr hs)
      rw [v1, v2]
  obtain ⟨x, kv, rfl, G4, g4, l4, v4⟩ := e
  have Y4 : ∀ {n : Nat} {o : MO}, n < h.length → h[n]? = some o → h4[n]? = some o := fun ln e => G4.get (by omega) (Xh.get e)
  have l34 := G4.len
  have l13 := X3.len
  refine step (fun sg h5 => ∃ x kv5, sg = [some t.d, some (.int (w : Int)), some (.ref a), some (.ref a2), some (.ref nm), some (.int tn), some (.ref h.length), some (.ref (h.length + 1)), some (.ref h1.length), some (.ref (h1.length + 1)), x, none, none] ∧ Gr (h.length + 1) h4 h5 ∧ h5[h.length + 1]? = some (.dk (D1 ++ kv5)) ∧ kv5.length = rs.length ∧ ∀ s ∈ rs, ∃ q, valD kv5 (.inr s) = some (.ref q) ∧ h5[q]? = some (.lst ((Rw s).map D.int))) ?_ fun sg h5 e => ?_
  · rw [w_for, wp_th]
    simp [G4.get (by omega) q2]
    refine fill_loop (pre := [some t.d, some (.int (w : Int)), some (.ref a), some (.ref a2), some (.ref nm), some (.int tn), some (.ref h.length), some (.ref (h.length + 1)), some (.ref h1.length), some (.ref (h1.length + 1))]) (n := h.length + 1) (fun s v h' => ∃ q, v = .ref q ∧ h4.length ≤ q ∧ h'[q]? = some (.lst ((Rw s).map D.int))) rfl rfl (G4.get (by omega) q2) (G4.get (by omega) (X3.get g2)) (by omega) (P2.nodup_iff.mpr rn) (fun s hs => k1 s (P2.mem_iff.mp hs)) (by rw [l1]; split <;> omega) (by rw [P2.length_eq]; exact rl) (fun s hs h' G => ?_) (fun s v h1' h2' G p G' => ?_) (fun x kv5 h' G eh ek ev => ?_)
    · obtain ⟨q, u1, u2, u3, u4⟩ := vb s (P2.mem_iff.mp hs)
      have z1 := G.get (by omega) (Y4 bl eb)
      have ql := lt_of u2
      have z2 := G.get (by omega) (Y4 ql u2)
      simp [z1, u1, z2]
      exact ⟨G.len, Ex.app⟩
    · obtain ⟨q, u1, u2, u3⟩ := p
      exact ⟨q, u1, u2, G'.get (by omega) u3⟩
    · refine ⟨x, kv5, rfl, G, eh, by have := congrArg List.length ek; simp at this; rw [this, P2.length_eq], fun s hs => ?_⟩
      obtain ⟨v, v1, q, rfl, v2, v3⟩ := ev s (P2.mem_iff.mpr hs)
      exact ⟨q, v1, v3⟩
  obtain ⟨x5, kv5, rfl, G5, g5, l5, v5⟩ := e
  have Y5 : ∀ {n : Nat} {o : MO}, n < h.length → h[n]? = some o → h5[n]? = some o := fun ln e => G5.get (by omega) (Y4 ln e)
  have l45 := G5.len
  have gw : h5[h.length]? = some (.dk (D0 ++ kv)) := G5.get (by omega) g4
  have vw : ∀ s ∈ ws, valD (D0 ++ kv) (.inr s) = some (.int (W s)) := fun s hs => by rw [valD_app_r (k0 s hs)]; exact v4 s hs
  have vr : ∀ s ∈ rs, ∃ q, valD (D1 ++ kv5) (.inr s) = some (.ref q) ∧ h5[q]? = some (.lst ((Rw s).map D.int)) := fun s hs => by rw [valD_app_r (k1 s hs)]; exact v5 s hs
  have X5 : Ex h h5 := ⟨by have := Xh.len; omega, fun n ln => by
    rw [G5.old n (by have := Xh.len; omega) (by omega), G4.old n (by have := Xh.len; omega) (by omega), Xh.old n ln]⟩
  have env : Env h5 h.length (h.length + 1) ws rs W Rw 1 := ⟨⟨_, gw, vw⟩, _, g5, fun s hs => by
    obtain ⟨q, z1, z2⟩ := vr s hs
    obtain ⟨_, _, _, z3, z4⟩ := vb s hs
    exact ⟨q, z1, z2, by omega, z4⟩⟩
  refine step (fun sg h6 => sg = [some t.d, some (.int (w : Int)), some (.ref a), some (.ref a2), some (.ref nm), some (.int tn), some (.ref h.length), some (.ref (h.length + 1)), some (.ref h1.length), some (.ref (h1.length + 1)), x5, some (.int (t.v w W Rw)), none] ∧ h6 = h5) ?_ fun sg h6 e => ?_
  · by_cases c : tn = 2
    all_goals
      simp [c]
      refine (worth_ok env w1 w6 t 64 td tk).1.mono fun d h' e => ?_
      obtain ⟨rfl, rfl⟩ := e
      simp [c]
  obtain ⟨rfl, rfl⟩ := e
  refine step (fun sg h7 => sg = [some t.d, some (.int (w : Int)), some (.ref a), some (.ref a2), some (.ref nm), some (.int tn), some (.ref h.length), some (.ref (h.length + 1)), some (.ref h1.length), some (.ref (h1.length + 1)), x5, some (.int (t.v w W Rw)), some (.bl true)] ∧ Ex h6 h7) ?_ fun sg h7 e => ?_
  · rw [w_set, wp_th, w_m2, wp_bind]
    refine (comp_sorted (by simp) (by decide) (by decide) rfl rfl (Y5 al ea) ka (by omega) gw (fun s hs => ⟨_, vw s hs⟩)).mono fun d h8 e => ?_
    obtain ⟨r1, rfl, c1, Z1⟩ := e
    rw [wp_bind]
    refine (comp_sorted (by simp) (by decide) (by decide) rfl rfl (Z1.get (Y5 al ea)) ka (by omega) (Z1.get (Y5 al ea)) (fun s hs => ⟨_, va s hs⟩)).mono fun d h9 e => ?_
    obtain ⟨r2, rfl, c2, Z2⟩ := e
    refine wp_of (eq_same (ps := (sortS ws).map fun s => .int (W s)) (Z2.get c1) c2 (pdl_map fun s hs => ?_) (pdl_map fun s hs => ?_) (fun p hp => ?_)) ?_
    · rw [vw s (sort_mem.mp hs)]; rfl
    · rw [va s (sort_mem.mp hs)]; rfl
    · obtain ⟨s, _, rfl⟩ := List.mem_map.mp hp
      exact good_int _
    · simp
      exact Z1.trans Z2
  obtain ⟨rfl, X7⟩ := e
  refine step (fun sg h8 => sg = [some t.d, some (.int (w : Int)), some (.ref a), some (.ref a2), some (.ref nm), some (.int tn), some (.ref h.length), some (.ref (h.length + 1)), some (.ref h1.length), some (.ref (h1.length + 1)), x5, some (.int (t.v w W Rw)), some (.bl true)] ∧ Ex h7 h8) ?_ fun sg h8 e => ?_
  · rw [w_set, wp_th, w_and, wp_bind, w_var]
    simp only [List.getElem?_cons_succ, List.getElem?_cons_zero, wp_ok, wp_bind, tru_b, if_true]
    rw [w_m2, wp_bind]
    refine (comp_sorted (by simp) (by decide) (by decide) rfl rfl (X7.get (Y5 bl eb)) kb (by omega) (X7.get g5) (fun s hs => ⟨_, (vr s hs).choose_spec.1⟩)).mono fun d h8 e => ?_
    obtain ⟨r1, rfl, c1, Z1⟩ := e
    rw [wp_bind]
    refine (comp_sorted (by simp) (by decide) (by decide) rfl rfl (Z1.get (X7.get (Y5 bl eb))) kb (by omega) (Z1.get (X7.get (Y5 bl eb))) (fun s hs => ⟨_, (vb s hs).choose_spec.1⟩)).mono fun d h9 e => ?_
    obtain ⟨r2, rfl, c2, Z2⟩ := e
    refine wp_of (eq_same (ps := (sortS rs).map fun s => .list ((Rw s).map PyData.int)) (Z2.get c1) c2 (pdl_map fun s hs => ?_) (pdl_map fun s hs => ?_) (fun p hp => ?_)) ?_
    · obtain ⟨q, z1, z2⟩ := vr s (sort_mem.mp hs)
      rw [z1]; exact pd_ints (n := 63) (Z2.get (Z1.get (X7.get z2)))
    · obtain ⟨q, z1, z2, _⟩ := vb s (sort_mem.mp hs)
      rw [z1]; exact pd_ints (n := 63) (Z2.get (Z1.get (X7.get (Y5 (lt_of z2) z2))))
    · obtain ⟨s, _, rfl⟩ := List.mem_map.mp hp
      exact good_ints _
    · simp
      exact Z1.trans Z2
  obtain ⟨rfl, X8⟩ := e
  have la := keys_len ka
  have lb := keys_len kb
  have e1 := X8.get (X7.get gw)
  have e2 := X8.get (X7.get g5)
  have e3 := X8.get (X7.get (Y5 al ea))
  have e4 := X8.get (X7.get (Y5 bl eb))
  have XX : Ex h h8 := X5.trans (X7.trans X8)
  by_cases c : tn = 0
  · have : ((D0.length : Int) + kv.length + (D1.length + kv5.length) = (kvs.length : Int) + kv2.length + 2) := by
      rw [if_pos c] at l0 l1; omega
    simp [e1, e2, e3, e4, c, this, XX]
  · have : ((D0.length : Int) + kv.length + (D1.length + kv5.length) = (kvs.length : Int) + kv2.length) := by
      rw [if_neg c] at l0 l1; omega
    simp [e1, e2, e3, e4, c, this, XX]
end K03

namespace K03
open PySem PySem.Spec PyProof.Rows L2 Mo
theorem good_str {s : Str} (h : PyData.strOk s = true) : Good (.str s) := by simp [Good, PyData.canLay0, PyData.depth, PyData.eqv, h]
theorem good_pair {s : Str} {n : Int} (h : PyData.strOk s = true) : Good (.tuple [.str s, .int n]) := by
  simp [Good, PyData.canLay0, PyData.canLayAll0, PyData.depth, PyData.depthAll, PyData.eqv, PyData.eqvAll, h]
theorem ne_empty {h : Mh} {r r2 : Nat} {L : List D} {ps : List PyData} (h1 : h[r]? = some (.lst L)) (h2 : h[r2]? = some (.lst [])) (p1 : pdl (pd 65 h) L = some ps) (g : ∀ p ∈ ps, Good p) : dE true (.ref r) (.ref r2) h = .ok (.bl (!ps.isEmpty)) h := by
  obtain ⟨a, b, c⟩ := good_all ps g
  have sh : SeqAt.shaped (.list ps) = true := by simp [SeqAt.shaped, PyData.canLay0, PyData.depth, a]; omega
  have s0 : SeqAt.shaped (.list []) = true := by simp [SeqAt.shaped, PyData.canLay0, PyData.canLayAll0, PyData.depth, PyData.depthAll]
  have pdr : ∀ r L ps, h[r]? = some (.lst L) → pdl (pd 65 h) L = some ps → pd 66 h (.ref r) = some (.list ps) := fun r L ps e p => by
    show (match h[r]? with
      | some (.lst ds) => (pdl (pd 65 h) ds).map PyData.list
      | some (.fls ds) => (pdl (pd 65 h) ds).map PyData.list
      | _ => none) = _
    rw [e]
    show (pdl (pd 65 h) L).map PyData.list = _
    rw [p]; rfl
  rw [eq_ok (pdr r L ps h1 p1) (pdr r2 [] [] h2 rfl) sh s0 rfl]
  cases ps <;> simp [PyData.eqv, PyData.eqvAll]
def tupD (p : Str × Int) : D := .tup [.str p.1, .int p.2]
theorem pdl_pairs {n : Nat} {h : Mh} : ∀ l : List (Str × Int), pdl (pd (n + 2) h) (l.map tupD) = some (l.map fun p => .tuple [.str p.1, .int p.2])
  | [] => rfl
  | p :: l => by
    have ih := pdl_pairs (n := n) (h := h) l
    have e : pd (n + 2) h (tupD p) = some (.tuple [.str p.1, .int p.2]) := rfl
    simp only [List.map_cons, pdl, ih, e]
structure Cxt (h : Mh) (b sm lt : Nat) (ws : List Str) (lots : List (Str × Int)) : Prop where
  B : BagOk h b
  s : h[sm]? = some (.lst (ws.map D.str))
  sb : sm ≠ b
  w2 : ws.length = 2
  l : h[lt]? = some (.lst (lots.map tupD))
  lb : lt ≠ b
  l2 : lots.length ≤ 2
  ok1 : ∀ s ∈ ws, PyData.strOk s = true
  ok2 : ∀ p ∈ lots, PyData.strOk p.1 = true
theorem Cxt.gr {h h' : Mh} {b sm lt ws lots} (C : Cxt h b sm lt ws lots) (G : Gr b h h') (B : BagOk h' b) : Cxt h' b sm lt ws lots :=
  ⟨B, G.get C.sb C.s, C.sb, C.w2, G.get C.lb C.l, C.lb, C.l2, C.ok1, C.ok2⟩
theorem Cxt.ex {h h' : Mh} {b sm lt ws lots} (C : Cxt h b sm lt ws lots) (X : Ex h h') : Cxt h' b sm lt ws lots := C.gr X.gr (C.B.ex X)
abbrev rsOf (lots : List (Str × Int)) : List Str := lots.map (·.1)
theorem leaf_ok {h : Mh} {b sm lt : Nat} {ws lots} {top : Int} (C : Cxt h b sm lt ws lots) (t0 : 0 < top) (t1 : top ≤ 1000000000) : (f__law_leaf [.ref b, .ref sm, .int top] h).wp fun d h' => (∃ t : T, d = t.d ∧ t.dep = 1 ∧ t.ok ws (rsOf lots)) ∧ BagOk h' b ∧ Gr b h h' := by
  unfold f__law_leaf m__law_leaf
  have e1 := ne_empty (app_get (t := [.lst []]) C.s) at_end (pdl_map (n := 65) (F := D.str) (G := PyData.str) (fun s _ => rfl)) (fun p hp => by
    obtain ⟨s, hs, rfl⟩ := List.mem_map.mp hp
    exact good_str (C.ok1 s hs))
  have e2 : (ws.map PyData.str).isEmpty = false := by
    cases ws with
    | nil => exact absurd C.w2 (by simp)
    | cons s r => rfl
  rw [e2] at e1
  simp [startD, List.replicate, e1]
  have X : Ex h (h ++ [.lst []]) := Ex.app
  generalize h ++ [.lst []] = h1 at *
  have C1 := C.ex X
  refine (draw_ok C1.B (size := 3) (by decide) (by decide)).mono fun d h2 ⟨k, e, k0, k1, B2, G2⟩ => ?_
  subst e
  by_cases c : 0 < k
  · simp [c]
    have C2 := C1.gr G2 B2
    refine (of_ok B2 C2.s C2.sb (by simp [C2.w2]) (by simp [C2.w2])).mono fun d h3 ⟨⟨j, e⟩, B3, G3⟩ => ?_
    rw [List.getElem?_map] at e
    obtain ⟨s, e3, rfl⟩ := Option.map_eq_some_iff.mp e
    simp
    exact ⟨⟨.wrd s, rfl, rfl, List.mem_of_getElem? e3⟩, B3, X.gr.trans (G2.trans G3)⟩
  · simp [c]
    refine (draw_ok B2 t0 (by omega)).mono fun d h3 ⟨k', e, k0, k1, B3, G3⟩ => ?_
    subst e
    simp
    have en : (h3 ++ [.lst [.int 0, .int 1, .int (top - 1), .int k']])[h3.length]? = some (.lst [.int 0, .int 1, .int (top - 1), .int k']) := at_end
    have X3 : Ex h3 (h3 ++ [.lst [.int 0, .int 1, .int (top - 1), .int k']]) := Ex.app
    refine (of_ok (B3.ex X3) en (by have := B3.lt; omega) (by simp) (by simp)).mono fun d h4 ⟨⟨j, e⟩, B4, G4⟩ => ?_
    have : ∃ i : Int, d = .int i := by
      have := List.mem_of_getElem? e
      simp at this
      rcases this with e | e | e | e <;> exact ⟨_, e⟩
    obtain ⟨i, rfl⟩ := this
    simp
    exact ⟨⟨.num i, rfl, rfl, trivial⟩, B4, X.gr.trans (G2.trans (G3.trans (X3.gr.trans G4)))⟩
theorem ops_lst {h : Mh} {b r : Nat} {l : List Op} (B : BagOk h b) (hr : h[r]? = some (.lst (l.map fun o => D.str o.s))) (rb : r ≠ b) (l0 : 0 < l.length) (l1 : l.length ≤ 100) : (f__law_of [.ref b, .ref r] h).wp fun d h' => (∃ o : Op, d = .str o.s) ∧ BagOk h' b ∧ Gr b h h' := by
  refine (of_ok B hr rb (by simpa using l0) (by simp; omega)).mono fun d h' ⟨⟨j, e⟩, B', G⟩ => ⟨?_, B', G⟩
  rw [List.getElem?_map] at e
  obtain ⟨o, _, rfl⟩ := Option.map_eq_some_iff.mp e
  exact ⟨o, rfl⟩
theorem pres_lst {h : Mh} {b : Nat} (B : BagOk h b) : (f__law_of [.ref b, .ref h.length] (h ++ [.lst [.str (Str.ofString "~"), .str (Str.ofString "half"), .str (Str.ofString "twice")]])).wp fun d h' => (∃ p : Pre, d = .str p.s) ∧ BagOk h' b ∧ Gr b h h' := by
  have X : Ex h (h ++ [.lst [.str (Str.ofString "~"), .str (Str.ofString "half"), .str (Str.ofString "twice")]]) := Ex.app
  refine (of_ok (B.ex X) at_end (by have := B.lt; omega) (by simp) (by simp)).mono fun d h' ⟨⟨j, e⟩, B', G⟩ => ⟨?_, B', X.gr.trans G⟩
  have := List.mem_of_getElem? e
  simp at this
  rcases this with e | e | e
  · exact ⟨.inv, e⟩
  · exact ⟨.half, e⟩
  · exact ⟨.twice, e⟩
theorem tree_ok {b sm lt : Nat} {ws lots} {top : Int} (t0 : 0 < top) (t1 : top ≤ 1000000000) : ∀ (k : Nat) (room : Int) (h : Mh), Cxt h b sm lt ws lots → room ≤ 1000 → room.toNat + 1 ≤ k → (f__law_tree k [.ref b, .int room, .ref sm, .ref lt, .int top] h).wp fun d h' => (∃ t : T, d = t.d ∧ t.dep ≤ room.toNat + 1 ∧ t.ok ws (rsOf lots)) ∧ BagOk h' b ∧ Gr b h h' := by
  intro k
  induction k with
  | zero => intro room h C _ l; omega
  | succ k ih =>
    intro room h C rl l
    unfold f__law_tree m__law_tree
    simp [startD, List.replicate]
    refine (draw_ok C.B (size := 10) (by decide) (by decide)).mono fun d h1 ⟨way, e, w0, w1, B1, G1⟩ => ?_
    subst e
    have C1 := C.gr G1 B1
    by_cases c : room < 2
    · simp [c]
      refine (leaf_ok C1 t0 t1).mono fun d h2 ⟨⟨t, e, td, tk⟩, B2, G2⟩ => ?_
      simp
      exact ⟨⟨t, e, by omega, tk⟩, B2, G1.trans G2⟩
    by_cases c0 : way = 0
    · subst c0
      simp [c]
      refine (leaf_ok C1 t0 t1).mono fun d h2 ⟨⟨t, e, td, tk⟩, B2, G2⟩ => ?_
      simp
      exact ⟨⟨t, e, by omega, tk⟩, B2, G1.trans G2⟩
    have e1 := ne_empty (app_get (t := [.lst []]) C1.l) at_end (pdl_pairs (n := 63) lots) (fun p hp => by
      obtain ⟨s, hs, rfl⟩ := List.mem_map.mp hp
      exact good_pair (C1.ok2 s hs))
    by_cases c1 : way = 1
    · subst c1
      by_cases cl : lots = []
      · have e1' := e1
        rw [cl] at e1'
        simp [c, e1, cl]
        refine (ops_lst (l := [.add, .sub, .and, .or, .xor, .eq, .lt, .add, .sub]) (B1.ex Ex.app) (by simp [Op.s]) (by have := B1.lt; omega) (by simp) (by simp)).mono fun d h2 ⟨⟨o, e⟩, B2, G2⟩ => ?_
        subst e
        simp
        refine (draw_ok B2 (size := room - 1) (by omega) (by omega)).mono fun d h3 ⟨cut, e, x0, x1, B3, G3⟩ => ?_
        subst e
        simp
        have G13 : Gr b h1 h3 := (Ex.app.gr.trans G2).trans G3
        have C3 := C1.gr G13 B3
        refine (ih (1 + cut) h3 C3 (by omega) (by omega)).mono fun d h4 ⟨⟨t, e, td, tk⟩, B4, G4⟩ => ?_
        subst e
        simp
        refine (ih (room - (1 + cut)) h4 (C3.gr G4 B4) (by omega) (by omega)).mono fun d h5 ⟨⟨u, e, ud, uk⟩, B5, G5⟩ => ?_
        subst e
        simp
        exact ⟨⟨.op o t u, rfl, by simp only [T.dep]; omega, tk, uk⟩, B5, G1.trans (G13.trans (G4.trans G5))⟩
      · simp [c, e1, cl]
        have X : Ex h1 (h1 ++ [.lst []]) := Ex.app
        have C2 := C1.ex X
        generalize h1 ++ [.lst []] = h2 at *
        refine (of_ok C2.B C2.l C2.lb (by cases lots with
          | nil => exact absurd rfl cl
          | cons p r => simp) (by have := C2.l2; simp; omega)).mono fun d h3 ⟨⟨j, e⟩, B3, G3⟩ => ?_
        rw [List.getElem?_map] at e
        obtain ⟨p, e3, rfl⟩ := Option.map_eq_some_iff.mp e
        simp [tupD, atI, ixN]
        refine (ih (room - 2) h3 (C2.gr G3 B3) (by omega) (by omega)).mono fun d h4 ⟨⟨t, e, td, tk⟩, B4, G4⟩ => ?_
        subst e
        simp
        exact ⟨⟨.at p.1 t, rfl, by simp only [T.dep]; omega, List.mem_map_of_mem (List.mem_of_getElem? e3), tk⟩, B4, G1.trans (X.gr.trans (G3.trans G4))⟩
    by_cases c23 : way = 2 ∨ way = 3
    · have pre : ∀ d h2, (∃ p : Pre, d = .str p.s) → BagOk h2 b → Gr b h1 h2 → (f__law_tree k [.ref b, .int (room - 1), .ref sm, .ref lt, .int top] h2).wp fun d2 h' => (∃ t : T, .tup [d, d2] = t.d ∧ t.dep ≤ room.toNat + 1 ∧ t.ok ws (rsOf lots)) ∧ BagOk h' b ∧ Gr b h h' := fun d h2 ⟨p, e⟩ B2 G2 => by
        refine (ih (room - 1) h2 (C1.gr G2 B2) (by omega) (by omega)).mono fun d2 h4 ⟨⟨t, e', td, tk⟩, B4, G4⟩ => ?_
        subst e e'
        exact ⟨⟨.pre p t, rfl, by simp only [T.dep]; omega, tk⟩, B4, G1.trans (G2.trans G4)⟩
      rcases c23 with c2 | c3
      · subst c2
        simp [c]
        refine (pres_lst B1).mono fun d h2 ⟨q, B2, G2⟩ => ?_
        simp
        refine (pre d h2 q B2 G2).mono fun d2 h3 q => ?_
        simpa using q
      · subst c3
        simp [c]
        refine (pres_lst B1).mono fun d h2 ⟨q, B2, G2⟩ => ?_
        simp
        refine (pre d h2 q B2 G2).mono fun d2 h3 q => ?_
        simpa using q
    · have c2 : ¬ way = 2 := fun z => c23 (.inl z)
      have c3 : ¬ way = 3 := fun z => c23 (.inr z)
      have c2' : ¬ 2 = way := fun z => c2 z.symm
      have c3' : ¬ 3 = way := fun z => c3 z.symm
      simp [c, c0, c1, c2, c3, c2', c3']
      refine (ops_lst (l := [.add, .sub, .and, .or, .xor, .eq, .lt, .add, .sub]) (B1.ex Ex.app) (by simp [Op.s]) (by have := B1.lt; omega) (by simp) (by simp)).mono fun d h2 ⟨⟨o, e⟩, B2, G2⟩ => ?_
      subst e
      simp
      refine (draw_ok B2 (size := room - 1) (by omega) (by omega)).mono fun d h3 ⟨cut, e, x0, x1, B3, G3⟩ => ?_
      subst e
      simp
      have G13 : Gr b h1 h3 := (Ex.app.gr.trans G2).trans G3
      have C3 := C1.gr G13 B3
      refine (ih (1 + cut) h3 C3 (by omega) (by omega)).mono fun d h4 ⟨⟨t, e, td, tk⟩, B4, G4⟩ => ?_
      subst e
      simp
      refine (ih (room - (1 + cut)) h4 (C3.gr G4 B4) (by omega) (by omega)).mono fun d h5 ⟨⟨u, e, ud, uk⟩, B5, G5⟩ => ?_
      subst e
      simp
      exact ⟨⟨.op o t u, rfl, by simp only [T.dep]; omega, tk, uk⟩, B5, G1.trans (G13.trans (G4.trans G5))⟩
end K03

namespace K03
open PySem PySem.Spec PyProof.Rows L2 Mo
theorem chain_ok {h : Mh} {b sm lt : Nat} {ws lots} {top : Int} (C : Cxt h b sm lt ws lots) (t0 : 0 < top) (t1 : top ≤ 1000000000) : (f__law_chain [.ref b, .ref sm, .ref lt, .int top] h).wp fun d h' => (∃ t : T, d = t.d ∧ t.dep ≤ 40 ∧ t.ok ws (rsOf lots)) ∧ BagOk h' b ∧ Gr b h h' := by
  have bl := C.B.lt
  unfold f__law_chain m__law_chain
  simp [startD, List.replicate]
  have hof := of_ok (h := h ++ [.lst [.str (Str.ofString "+"), .str (Str.ofString "-")], .lst [.str (Str.ofString "&"), .str (Str.ofString "|"), .str (Str.ofString "^"), .str (Str.ofString "=="), .str (Str.ofString "<")], .lst [.str (Str.ofString "+"), .str (Str.ofString "-"), .str (Str.ofString "&"), .str (Str.ofString "|"), .str (Str.ofString "^"), .str (Str.ofString "=="), .str (Str.ofString "<")], .lst [.str (Str.ofString "-")], .lst [.str (Str.ofString "<")], .lst [.ref h.length, .ref (h.length + 1), .ref (h.length + 2), .ref (h.length + 3), .ref (h.length + 4)]]) (b := b) (r := h.length + 5) (ds := [.ref h.length, .ref (h.length + 1), .ref (h.length + 2), .ref (h.length + 3), .ref (h.length + 4)]) (C.B.ex Ex.app) (by simp) (by omega) (by simp) (by simp)
  refine hof.mono fun d h1 ⟨⟨j, e⟩, B1, G1⟩ => ?_
  have G01 : Gr b h h1 := Ex.app.gr.trans G1
  have sg : ∃ r, ∃ l : List Op, d = .ref r ∧ h1[r]? = some (.lst (l.map fun o => D.str o.s)) ∧ r ≠ b ∧ 0 < l.length ∧ l.length ≤ 100 := by
    have := List.mem_of_getElem? e
    simp at this
    rcases this with e | e | e | e | e
    · exact ⟨_, [.add, .sub], e, G1.get (by omega) (by simp [Op.s]), by omega, by simp, by simp⟩
    · exact ⟨_, [.and, .or, .xor, .eq, .lt], e, G1.get (by omega) (by simp [Op.s]), by omega, by simp, by simp⟩
    · exact ⟨_, [.add, .sub, .and, .or, .xor, .eq, .lt], e, G1.get (by omega) (by simp [Op.s]), by omega, by simp, by simp⟩
    · exact ⟨_, [.sub], e, G1.get (by omega) (by simp [Op.s]), by omega, by simp, by simp⟩
    · exact ⟨_, [.lt], e, G1.get (by omega) (by simp [Op.s]), by omega, by simp, by simp⟩
  clear hof
  obtain ⟨r, l, rfl, hr, rb, l0, l1⟩ := sg
  have C1 := C.gr G01 B1
  simp
  refine (leaf_ok C1 t0 t1).mono fun d h2 ⟨⟨t, e, td, tk⟩, B2, G2⟩ => ?_
  subst e
  simp
  refine (draw_ok B2 (size := 2) (by decide) (by decide)).mono fun d h3 ⟨side, e, x0, x1, B3, G3⟩ => ?_
  subst e
  simp
  refine (draw_ok B3 (size := 13) (by decide) (by decide)).mono fun d h4 ⟨n, e, n0, n1, B4, G4⟩ => ?_
  subst e
  have ir : InR (1 + n) := inR_of (by omega) (by omega)
  simp [ir]
  have G14 : Gr b h1 h4 := G2.trans (G3.trans G4)
  refine loop (fun j sg h' => ∃ (t : T) (x7 x8 : Option D), sg = [some (.ref b), some (.ref sm), some (.ref lt), some (.int top), some (.ref r), some t.d, some (.int side), x7, x8] ∧ t.dep ≤ 3 + 2 * j ∧ t.ok ws (rsOf lots) ∧ BagOk h' b ∧ Gr b h1 h') ⟨t, none, none, rfl, by omega, tk, B4, G14⟩ (fun j x sg h' e ⟨t, x7, x8, es, td, tk, B, G⟩ => ?_) (fun sg h' ⟨t, x7, x8, es, td, tk, B, G⟩ => ?_)
  · subst es
    refine ⟨trivial, _, rfl, ?_⟩
    have Cj := C1.gr G B
    simp
    refine (draw_ok B (size := 2) (by decide) (by decide)).mono fun d h5 ⟨m, e, m0, m1, B5, G5⟩ => ?_
    subst e
    simp
    refine (tree_ok t0 t1 24 (1 + m) h5 (Cj.gr G5 B5) (by omega) (by omega)).mono fun d h6 ⟨⟨u, e, ud, uk⟩, B6, G6⟩ => ?_
    subst e
    have G16 := G.trans (G5.trans G6)
    have key := ops_lst (h := h6) (l := l) B6 (G16.get rb hr) rb l0 l1
    by_cases cs : side = 0
    all_goals
      simp [cs]
      refine key.mono fun d h7 ⟨⟨o, e⟩, B7, G7⟩ => ?_
      subst e
      simp
      refine (draw_ok B7 (size := 5) (by decide) (by decide)).mono fun d h8 ⟨m5, e, _, _, B8, G8⟩ => ?_
      subst e
      by_cases c5 : m5 = 0
      · simp [c5]
        refine (pres_lst B8).mono fun d h9 ⟨⟨p, e⟩, B9, G9⟩ => ?_
        subst e
        simp
        first
          | exact ⟨.pre p (.op o t u), ⟨⟨rfl, cs.symm⟩, by simp only [T.dep]; omega, ⟨tk, uk⟩, B9, G16.trans (G7.trans (G8.trans G9))⟩⟩
          | exact ⟨.pre p (.op o u t), ⟨rfl, by simp only [T.dep]; omega, ⟨uk, tk⟩, B9, G16.trans (G7.trans (G8.trans G9))⟩⟩
      · simp [c5]
        first
          | exact ⟨.op o t u, ⟨⟨rfl, cs.symm⟩, by simp only [T.dep]; omega, ⟨tk, uk⟩, B8, G16.trans (G7.trans G8)⟩⟩
          | exact ⟨.op o u t, ⟨rfl, by simp only [T.dep]; omega, ⟨uk, tk⟩, B8, G16.trans (G7.trans G8)⟩⟩
  · subst es
    refine ⟨trivial, ?_⟩
    simp
    simp at td
    exact ⟨⟨t, rfl, by omega, tk⟩, B, G01.trans G⟩
theorem atI_0 {x : D} {l : List D} : atI (x :: l) 0 = some x := by simp [atI, ixN]
theorem Cxt.put {h : Mh} {b sm lt n : Nat} {ws lots} {o : MO} (C : Cxt h b sm lt ws lots) (nb : b < n) (ns : sm < n) (nl : lt < n) : Cxt (h.set n o) b sm lt ws lots :=
  ⟨C.B.put nb, (set_off (by omega)).trans C.s, C.sb, C.w2, (set_off (by omega)).trans C.l, C.lb, C.l2, C.ok1, C.ok2⟩
theorem knots_tail {h h5 : Mh} {b sm lt F : Nat} {ws lots} {top : Int} {ts : List T} {x4 x6 : Option D} (C : Cxt h5 b sm lt ws lots) (t0 : 0 < top) (t1 : top ≤ 1000000000) (G : Gr b h h5) (hF : h5[F]? = some (.lst (ts.map T.d))) (Fh : h.length ≤ F) (bh : b < h.length) (sh : sm < h.length) (lh : lt < h.length) (l2 : 2 ≤ ts.length) (l3 : ts.length ≤ 8) (ok : ∀ t ∈ ts, t.dep ≤ 40 ∧ t.ok ws (rsOf lots)) :
    RS.wp (RS.th (sExpr (mMt "list" dAppend (mVar 5) (mCons (mCall 5 (f__law_tree 24) (mCons (mVar 0) (mCons (mCall 2 f__law_of (mCons (mVar 0) (mCons (mLst (mCons (mLit (.int 6)) (mCons (mLit (.int 10)) (mCons (mLit (.int 14)) (mCons (mLit (.int 20)) mNil))))) mNil)) []) (mCons (mVar 1) (mCons (mVar 2) (mCons (mVar 3) mNil))))) []) mNil)) [some (.ref b), some (.ref sm), some (.ref lt), some (.int top), x4, some (.ref F), x6] h5)
      (sRet (m2 dAdd (mVar 5) (mLst (mCons (mCall 4 f__law_chain (mCons (mVar 0) (mCons (mVar 1) (mCons (mVar 2) (mCons (mVar 3) mNil)))) []) mNil)))))
      (fun _ h' => (∃ r, ∃ ts : List T, D.non = .ref r ∧ h'[r]? = some (.lst (ts.map T.d)) ∧ r ≠ b ∧ 2 ≤ ts.length ∧ ts.length ≤ 10 ∧ ∀ t ∈ ts, t.dep ≤ 40 ∧ t.ok ws (rsOf lots)) ∧ BagOk h' b ∧ Gr b h h')
      (fun d h' => (∃ r, ∃ ts : List T, d = .ref r ∧ h'[r]? = some (.lst (ts.map T.d)) ∧ r ≠ b ∧ 2 ≤ ts.length ∧ ts.length ≤ 10 ∧ ∀ t ∈ ts, t.dep ≤ 40 ∧ t.ok ws (rsOf lots)) ∧ BagOk h' b ∧ Gr b h h') := by
  simp [hF]
  have X : Ex h5 (h5 ++ [.lst [.int 6, .int 10, .int 14, .int 20]]) := Ex.app
  refine (of_ok (C.B.ex X) at_end (by have := C.B.lt; omega) (by simp) (by simp)).mono fun d h6 ⟨⟨j, e⟩, B6, G6⟩ => ?_
  have G56 := X.gr.trans G6
  have : ∃ i : Int, d = .int i ∧ i ≤ 20 := by
    have := List.mem_of_getElem? e
    simp at this
    rcases this with e | e | e | e <;> exact ⟨_, e, by decide⟩
  obtain ⟨i, rfl, i20⟩ := this
  have C6 := C.gr G56 B6
  simp
  refine (tree_ok t0 t1 24 i h6 C6 (by omega) (by omega)).mono fun d h7 ⟨⟨t, e, td, tk⟩, B7, G7⟩ => ?_
  subst e
  have C7 := C6.gr G7 B7
  have Fb : F ≠ b := by omega
  have hF7 : h7[F]? = some (.lst (ts.map T.d)) := G7.get Fb (G56.get Fb hF)
  have lc : LenC ts.length := lenC (by omega)
  simp [hF7, lc]
  have F7 := lt_of hF7
  have C8 : Cxt (h7.set F (.lst (ts.map T.d ++ [t.d]))) b sm lt ws lots := C7.put (by omega) (by omega) (by omega)
  have G8 : Gr b h (h7.set F (.lst (ts.map T.d ++ [t.d]))) := (G.trans (G56.trans G7)).put (.inl Fh)
  have hF8 : (h7.set F (.lst (ts.map T.d ++ [t.d])))[F]? = some (.lst (ts.map T.d ++ [t.d])) := set_at F7
  generalize h7.set F (.lst (ts.map T.d ++ [t.d])) = h8 at *
  refine (chain_ok C8 t0 t1).mono fun d h9 ⟨⟨u, e, ud, uk⟩, B9, G9⟩ => ?_
  subst e
  have hF9 := G9.get Fb hF8
  have le : LenE (ts.length + 1 + 1) := lenE (by omega)
  simp [app_get hF9, le]
  refine ⟨⟨ts ++ [t, u], by simp, by have := B9.lt; omega, by simp <;> omega, by simp <;> omega, fun v hv => ?_⟩, B9.ex Ex.app, G8.trans (G9.trans Ex.app.gr)⟩
  simp at hv
  rcases hv with hv | rfl | rfl
  · exact ok v hv
  · exact ⟨by omega, tk⟩
  · exact ⟨ud, uk⟩
theorem knots_ok {h : Mh} {b sm lt : Nat} {ws lots} {top : Int} (C : Cxt h b sm lt ws lots) (t0 : 0 < top) (t1 : top ≤ 1000000000) : (f__law_knots [.ref b, .ref sm, .ref lt, .int top] h).wp fun d h' => (∃ r, ∃ ts : List T, d = .ref r ∧ h'[r]? = some (.lst (ts.map T.d)) ∧ r ≠ b ∧ 2 ≤ ts.length ∧ ts.length ≤ 10 ∧ ∀ t ∈ ts, t.dep ≤ 40 ∧ t.ok ws (rsOf lots)) ∧ BagOk h' b ∧ Gr b h h' := by
  obtain ⟨s0, s1, ews⟩ : ∃ s0 s1, ws = [s0, s1] := by
    have := C.w2
    match ws, this with
    | [s0, s1], _ => exact ⟨s0, s1, rfl⟩
  have bl := C.B.lt
  have i0 : atI (ws.map D.str) 0 = some (.str s0) := by rw [ews]; rfl
  have i1 : atI (ws.map D.str) 1 = some (.str s1) := by rw [ews]; rfl
  have m0 : s0 ∈ ws := by simp [ews]
  have m1 : s1 ∈ ws := by simp [ews]
  clear ews
  unfold f__law_knots m__law_knots
  simp [startD, List.replicate]
  refine (ops_lst (l := [.add, .sub, .and, .or, .xor, .eq, .lt]) (C.B.ex Ex.app) (by simp [Op.s]) (by omega) (by simp) (by simp)).mono fun d h1 ⟨⟨o, e⟩, B1, G1⟩ => ?_
  subst e
  have G01 : Gr b h h1 := Ex.app.gr.trans G1
  have C1 := C.gr G01 B1
  simp [C1.s, i0, i1]
  refine (pres_lst B1).mono fun d h2 ⟨⟨p, e⟩, B2, G2⟩ => ?_
  subst e
  have C2 := C1.gr G2 B2
  simp [C2.s, i0]
  have two : ∀ (h2 : Mh), BagOk h2 b → (f__law_of [.ref b, .ref h2.length] (h2 ++ [.lst [.tup [.str o.s, .tup [.str (Str.ofString "word"), .str s0], .tup [.str (Str.ofString "word"), .str s1]], .tup [.str (Str.ofString "word"), .str s0]]])).wp fun d h' => (∃ t : T, d = t.d ∧ t.dep ≤ 2 ∧ t.ok ws (rsOf lots)) ∧ BagOk h' b ∧ Gr b h2 h' := fun h2 B2 => by
    refine (of_ok (B2.ex Ex.app) at_end (by have := B2.lt; omega) (by simp) (by simp)).mono fun d h' ⟨⟨j, e⟩, B', G⟩ => ⟨?_, B', Ex.app.gr.trans G⟩
    have := List.mem_of_getElem? e
    simp at this
    rcases this with e | e
    · exact ⟨.op o (.wrd s0) (.wrd s1), e, by simp [T.dep], m0, m1⟩
    · exact ⟨.wrd s0, e, by simp [T.dep], m0⟩
  refine (two h2 B2).mono fun d h3 ⟨⟨t, e, td, tk⟩, B3, G3⟩ => ?_
  subst e
  have C3 := C2.gr G3 B3
  simp
  have G03 := G01.trans (G2.trans G3)
  have shl := lt_of C.s
  have lhl := lt_of C.l
  have gl := G03.len
  have X3 : Ex h3 (h3 ++ [.lst [.tup [.str o.s, .tup [.str (Str.ofString "word"), .str s0], .tup [.str (Str.ofString "word"), .str s1]], .tup [.str p.s, t.d]], .lst []]) := Ex.app
  have C4 := C3.ex X3
  have hF : (h3 ++ [.lst [.tup [.str o.s, .tup [.str (Str.ofString "word"), .str s0], .tup [.str (Str.ofString "word"), .str s1]], .tup [.str p.s, t.d]], .lst []])[h3.length]? = some (.lst (([.op o (.wrd s0) (.wrd s1), .pre p t] : List T).map T.d)) := by simp [T.d]
  have hE : (h3 ++ [.lst [.tup [.str o.s, .tup [.str (Str.ofString "word"), .str s0], .tup [.str (Str.ofString "word"), .str s1]], .tup [.str p.s, t.d]], .lst []])[h3.length + 1]? = some (.lst []) := by simp
  have ok0 : ∀ v ∈ ([.op o (.wrd s0) (.wrd s1), .pre p t] : List T), v.dep ≤ 40 ∧ v.ok ws (rsOf lots) := fun v hv => by
    simp at hv
    rcases hv with rfl | rfl
    · exact ⟨by simp [T.dep], m0, m1⟩
    · exact ⟨by simp only [T.dep]; omega, tk⟩
  generalize h3 ++ [.lst [.tup [.str o.s, .tup [.str (Str.ofString "word"), .str s0], .tup [.str (Str.ofString "word"), .str s1]], .tup [.str p.s, t.d]], .lst []] = h4 at *
  refine wp_of (ne_empty C4.l hE (pdl_pairs (n := 63) lots) (fun p hp => by
    obtain ⟨s, hs, rfl⟩ := List.mem_map.mp hp
    exact good_pair (C4.ok2 s hs))) ?_
  simp only [wp_ok]
  have G04 := G03.trans X3.gr
  by_cases cl : lots = []
  · have ee : (lots.map fun p => PyData.tuple [PyData.str p.1, PyData.int p.2]).isEmpty = true := by rw [cl]; rfl
    rw [ee]
    simp only [Bool.not_true, Bool.false_eq_true, if_false, Mo.w_next, wp_nx]
    exact knots_tail C4 t0 t1 G04 hF (by omega) bl shl lhl (by simp) (by simp) ok0
  · have ee : (lots.map fun p => PyData.tuple [PyData.str p.1, PyData.int p.2]).isEmpty = false := by
      cases lots with
      | nil => exact absurd rfl cl
      | cons p r => rfl
    rw [ee]
    have lt0 : ∀ {h : Mh}, Cxt h b sm lt ws lots → (f__law_of [.ref b, .ref lt] h).wp fun d h' => (∃ p ∈ lots, d = tupD p) ∧ BagOk h' b ∧ Gr b h h' := fun {h} C => by
      refine (of_ok C.B C.l C.lb (by cases lots with
          | nil => exact absurd rfl cl
          | cons p r => simp) (by have := C.l2; simp; omega)).mono fun d h3 ⟨⟨j, e⟩, B3, G3⟩ => ⟨?_, B3, G3⟩
      rw [List.getElem?_map] at e
      obtain ⟨p, e3, rfl⟩ := Option.map_eq_some_iff.mp e
      exact ⟨p, List.mem_of_getElem? e3, rfl⟩
    simp only [Bool.not_false, if_true]
    refine RS.wp.mono (z := ⟨⟩) (y := ⟨⟩) (N := fun sg h' => ∃ x6, ∃ ts : List T, sg = [some (.ref b), some (.ref sm), some (.ref lt), some (.int top), some (.tup [.str o.s, .tup [.str (Str.ofString "word"), .str s0], .tup [.str (Str.ofString "word"), .str s1]]), some (.ref h3.length), x6] ∧ Cxt h' b sm lt ws lots ∧ Gr b h h' ∧ h'[h3.length]? = some (.lst (ts.map T.d)) ∧ 2 ≤ ts.length ∧ ts.length ≤ 8 ∧ ∀ t ∈ ts, t.dep ≤ 40 ∧ t.ok ws (rsOf lots)) (T := fun _ _ => False) ?_ (fun sg h' ⟨x6, ts, es, Ct, Gt, Ft, lt2, lt8, okt⟩ => by subst es; exact knots_tail Ct t0 t1 Gt Ft (by omega) bl shl lhl lt2 lt8 okt) (fun _ _ z => z.elim)
    simp
    refine (lt0 C4).mono fun d h5 ⟨⟨p1, hp1, e⟩, B5, G5⟩ => ?_
    subst e
    have C5 := C4.gr G5 B5
    simp [tupD, atI_0, C5.s, i0]
    refine (two h5 B5).mono fun d h6 ⟨⟨v, e, vd, vk⟩, B6, G6⟩ => ?_
    subst e
    have C6 := C5.gr G6 B6
    have Fb : h3.length ≠ b := by omega
    have hF6 := G6.get Fb (G5.get Fb hF)
    simp [hF6]
    refine (lt0 C6).mono fun d h7 ⟨⟨p2, hp2, e⟩, B7, G7⟩ => ?_
    subst e
    have C7 := C6.gr G7 B7
    have hF7 := G7.get Fb hF6
    have F7 := lt_of hF7
    simp [tupD, atI_0, hF7]
    refine ⟨C7.put (by omega) (by omega) (by omega), (G04.trans (G5.trans (G6.trans G7))).put (.inl (by omega)), [T.op o (.wrd s0) (.wrd s1), T.pre p t, T.at p2.1 (.at p1.1 v)], set_at F7, by simp, by simp, fun u hu => ?_⟩
    simp at hu
    rcases hu with rfl | rfl | rfl
    · exact ok0 _ (by simp)
    · exact ok0 _ (by simp)
    · exact ⟨by simp only [T.dep]; omega, List.mem_map_of_mem hp2, List.mem_map_of_mem hp1, vk⟩
end K03

namespace K03
open PySem PySem.Spec PyProof.Rows L2 Mo
@[simp ↓] theorem w_pnil {sg h} {P} {z : Tg P} : R.wp (mPNil sg h) P z = R.wp (R.ok [] h) P := rfl
@[simp ↓] theorem w_pcons {a b r sg h} {P} {z : Tg P} : R.wp (mPCons a b r sg h) P z = R.wp ((a sg h).bind fun x h1 => (b sg h1).bind fun y h2 => (r sg h2).bind fun ps h3 => .ok ((x, y) :: ps) h3) P := rfl
@[simp ↓] theorem w_disp {r sg h} {P} {z : Tg P} : R.wp (mDisp r sg h) P z = R.wp (r sg (h ++ [.dk []])) fun ps h2 => R.wp (match h2[h.length]?, keyPs ps with
  | some (.dk []), some kvs => if kvs.length ≤ 15 then R.ok (D.ref h.length) (h2.set h.length (.dk (mergeD [] kvs))) else .bad
  | _, _ => .bad) P := by
  show R.wp ((r sg (h ++ [.dk []])).bind fun ps h2 => match h2[h.length]?, keyPs ps with
  | some (.dk []), some kvs => if kvs.length ≤ 15 then R.ok (D.ref h.length) (h2.set h.length (.dk (mergeD [] kvs))) else .bad
  | _, _ => .bad) P z = _
  exact wp_bind
theorem lc_draw {s : Src} {g : D → Sg → Option Sg} {me : Sg → Mh → R D} {sg : Sg} {h : Mh} {b : Nat} {items : List D} (P : D → Prop) (B : BagOk h b) (l : items.length ≤ 1000)
    (hx : ∀ j x h', items[j]? = some x → BagOk h' b → Gr b h h' → s.at' j x h' ∧ ∃ sg1, g x sg = some sg1 ∧ (me sg1 h').wp fun y h2 => P y ∧ BagOk h2 b ∧ Gr b h' h2)
    (fin : ∀ h', Gr b h h' → s.fin items.length h') (hi : items = s.items := by simp) : (lcL s g mYes me sg h.length items 0 (h ++ [.lst []])).wp fun d h' => d = .ref h.length ∧ ∃ ys : List D, h'[h.length]? = some (.lst ys) ∧ ys.length = items.length ∧ (∀ y ∈ ys, P y) ∧ BagOk h' b ∧ Gr b h h' := by
  subst hi
  have bl := B.lt
  have key := lc_wp (s := s) (g := g) (mt := mYes) (me := me) (sg := sg) (n := h.length) (P := fun d h' => d = .ref h.length ∧ ∃ ys : List D, h'[h.length]? = some (.lst ys) ∧ ys.length = s.items.length ∧ (∀ y ∈ ys, P y) ∧ BagOk h' b ∧ Gr b h h')
    (fun j acc h' => acc.length = j ∧ (∀ y ∈ acc, P y) ∧ BagOk h' b ∧ Gr b h h') (fun j x acc h' e ⟨i1, i2, i3, i4⟩ hn => ?_) (fun acc h' ⟨i1, i2, i3, i4⟩ hn => ⟨fin h' i4, rfl, acc, hn, i1, i2, i3, i4⟩) s.items.length 0 [] (h ++ [.lst []]) rfl ⟨rfl, by simp, B.ex Ex.app, Gr.app⟩ at_end
  · exact key
  · obtain ⟨a, sg1, e1, w⟩ := hx j x h' e i3 i4
    refine ⟨a, sg1, e1, wp_of (a := true) (h := h') rfl ?_⟩
    rw [if_pos rfl]
    refine w.mono fun y h2 ⟨py, B2, G2⟩ => ?_
    have jl := (List.getElem?_eq_some_iff.mp e).1
    refine ⟨G2.get (by omega) hn, Nat.lt_of_lt_of_le (by omega) line_le, by simp [i1], fun z hz => ?_, B2.put bl, (i4.trans G2).put (.inl (Nat.le_refl _))⟩
    rcases List.mem_append.mp hz with hz | hz
    · exact i2 z hz
    · rw [List.mem_singleton.mp hz]; exact py
theorem ints_of {ys : List D} (h : ∀ y ∈ ys, ∃ i : Int, y = .int i) : ∃ xs : List Int, ys = xs.map D.int := by
  induction ys with
  | nil => exact ⟨[], rfl⟩
  | cons y ys ih =>
    obtain ⟨i, rfl⟩ := h y (by simp)
    obtain ⟨xs, rfl⟩ := ih fun z hz => h z (by simp [hz])
    exact ⟨i :: xs, rfl⟩
def pairD (p : Int × Int) : D := .tup [.int p.1, .int p.2]
theorem pairs_of {ys : List D} (h : ∀ y ∈ ys, ∃ i j : Int, y = .tup [.int i, .int j]) : ∃ xs : List (Int × Int), ys = xs.map pairD := by
  induction ys with
  | nil => exact ⟨[], rfl⟩
  | cons y ys ih =>
    obtain ⟨i, j, rfl⟩ := h y (by simp)
    obtain ⟨xs, rfl⟩ := ih fun z hz => h z (by simp [hz])
    exact ⟨(i, j) :: xs, rfl⟩
theorem pow_le {w : Nat} (w1 : 1 ≤ w) (w6 : w ≤ 6) : (2 : Int) ≤ 2 ^ w ∧ (2 : Int) ^ w ≤ 64 := by
  have hw : w = 1 ∨ w = 2 ∨ w = 3 ∨ w = 4 ∨ w = 5 ∨ w = 6 := by omega
  rcases hw with rfl | rfl | rfl | rfl | rfl | rfl <;> decide
theorem any_ok {h : Mh} {b : Nat} (B : BagOk h b) : (f__law_any_lengths_so [.ref b] h).wp fun d h' => d = .bl true := by
  unfold f__law_any_lengths_so m__law_any_lengths_so
  simp [startD, List.replicate]
  refine (draw_ok B (size := 6) (by decide) (by decide)).mono fun d h1 ⟨w', e, w0, w1, B1, G1⟩ => ?_
  subst e
  obtain ⟨w, ew⟩ : ∃ w : Nat, 1 + w' = (w : Int) := ⟨(1 + w').toNat, by omega⟩
  simp [ew]
  refine (draw_ok B1 (size := 9) (by decide) (by decide)).mono fun d h2 ⟨n', e, n0, n1, B2, G2⟩ => ?_
  subst e
  obtain ⟨n, en⟩ : ∃ n : Nat, 1 + n' = (n : Int) := ⟨(1 + n').toNat, by omega⟩
  simp only [add_ii, wp_ok, en]
  have w1' : 1 ≤ w := by omega
  have w6 : w ≤ 6 := by omega
  obtain ⟨p2, p64⟩ := pow_le w1' w6
  have wl : (w : Int) ≤ 1000000 := by omega
  have ir : InR (n : Int) := inR_of (by omega) (by omega)
  simp [wl, ir, wipeD]
  refine (lc_draw (s := srcR 0 n) (g := gNm 7) (items := (List.range n).map fun k : Nat => D.int (k : Int)) (fun y => ∃ i : Int, y = .int i ∧ 0 ≤ i ∧ i < 2 ^ w) B2 (by simp; omega) (fun j x h' e B' G' => ⟨trivial, _, rfl, ?_⟩) (fun _ _ => trivial)).mono fun d h3 ⟨e, ys, hy, ly, Py, B3, G3⟩ => ?_
  · simp
    refine (draw_ok B' (size := 2 ^ w) (by omega) (by omega)).mono fun d h4 ⟨k, e, k0, k1, B4, G4⟩ => ?_
    exact ⟨⟨k, e, k0, k1⟩, B4, G4⟩
  · subst e
    obtain ⟨xs, rfl⟩ := ints_of fun y hy => by
      obtain ⟨i, e, _⟩ := Py y hy
      exact ⟨i, e⟩
    have Px : ∀ x ∈ xs, 0 ≤ x ∧ x < 2 ^ w := fun x hx => by
      obtain ⟨i, e, q⟩ := Py (.int x) (List.mem_map_of_mem hx)
      cases e
      exact q
    have lx : xs.length = n := by simpa using ly
    simp
    refine (draw_ok B3 (size := 2 ^ w) (by omega) (by omega)).mono fun d h4 ⟨k, e, k0, k1, B4, G4⟩ => ?_
    subst e
    have hy4 := G4.get (by have := B2.lt; omega) hy
    simp [keyPs, mergeD, putD, List.set_append, app_get hy4]
    have env : Env (h4 ++ [.dk [(.inr (Str.ofString "w"), .int k)], .dk [(.inr (Str.ofString "m"), .ref (h4.length + 2))], .lst (xs.map D.int)]) h4.length (h4.length + 1) [Str.ofString "w"] [Str.ofString "m"] (fun _ => k) (fun _ => xs) 1 := ⟨⟨_, by simp; rfl, by simp [valD]⟩, ⟨_, by simp; rfl, fun r hr => ⟨h4.length + 2, by simp at hr; simp [valD, hr], by simp, by omega, by omega⟩⟩⟩
    have wk := (worth_ok env w1' w6 (.at (Str.ofString "m") (.wrd (Str.ofString "w"))) 64 (by simp [T.dep]) (by simp [T.ok])).1
    refine wk.mono fun d h5 e => ?_
    obtain ⟨rfl, rfl⟩ := e
    have kk : k % 2 ^ w = k := Int.emod_eq_of_lt k0 k1
    have nz : (0 : Int) < (n : Int) := by omega
    have mc : ModC (n : Int) := modC nz
    have m0 : 0 ≤ k % (n : Int) := Int.emod_nonneg _ (by omega)
    have m1 : k % (n : Int) < (n : Int) := Int.emod_lt_of_pos _ nz
    have m2 : (k % (n : Int)).toNat < xs.length := by omega
    obtain ⟨y0, y1⟩ := Px _ (List.getElem_mem m2)
    have yy : xs[(k % (n : Int)).toNat] % 2 ^ w = xs[(k % (n : Int)).toNat] := Int.emod_eq_of_lt y0 y1
    simp [app_get hy4, T.v, kk, mc, atI, ixN, lx, m0, m1, List.getElem?_eq_getElem m2, yy]
    refine like_int.mono fun d h6 e => ?_
    simp [e.1]
theorem pairs_ok {h : Mh} {b w : Nat} (B : BagOk h b) (w1 : 1 ≤ w) (w6 : w ≤ 6) : (f__law_pairs [.ref b, .int (w : Int)] h).wp fun d h' => (∃ r, ∃ ps : List (Int × Int), d = .ref r ∧ h'[r]? = some (.lst (ps.map pairD)) ∧ r ≠ b ∧ 1 ≤ ps.length ∧ ps.length ≤ 100) ∧ BagOk h' b ∧ Gr b h h' := by
  have bl := B.lt
  obtain ⟨p2, p64⟩ := pow_le w1 w6
  have wl : (w : Int) ≤ 1000000 := by omega
  have f1 : FdC (2 ^ w) := fdC (by omega) (by omega)
  have f2 : ∀ x : Int, MulC x (2 ^ w) := fun x => mulC_r (by omega) (by omega)
  have small : w ≤ 3 → ∀ h' (sg : Sg), Gr b h h' → BagOk h' b → (mLc (mRange1 (m2 dMul (mVar 2) (mVar 2))) (gNm 4) mYes (mTup (mCons (m2 dFdiv (mVar 4) (mVar 2)) (mCons (m2 dSub (mVar 4) (m2 dMul (m2 dFdiv (mVar 4) (mVar 2)) (mVar 2))) mNil))) [4] [some (.ref b), some (.int (w : Int)), some (.int (2 ^ w)), none, none] h').wp fun d h' => (∃ r, ∃ ps : List (Int × Int), d = .ref r ∧ h'[r]? = some (.lst (ps.map pairD)) ∧ r ≠ b ∧ 1 ≤ ps.length ∧ ps.length ≤ 100) ∧ BagOk h' b ∧ Gr b h h' := fun w3 h' sg G B' => by
    have e64 : ∃ n : Nat, (2 : Int) ^ w * 2 ^ w = (n : Int) ∧ 1 ≤ n ∧ n ≤ 64 := by
      have hw : w = 1 ∨ w = 2 ∨ w = 3 := by omega
      rcases hw with rfl | rfl | rfl
      · exact ⟨4, by decide, by decide, by decide⟩
      · exact ⟨16, by decide, by decide, by decide⟩
      · exact ⟨64, by decide, by decide, by decide⟩
    obtain ⟨n, en, n1, n64⟩ := e64
    have ir : InR (n : Int) := inR_of (by omega) (by omega)
    simp [f2, en, ir, wipeD]
    refine (lc_draw (s := srcR 0 n) (g := gNm 4) (items := (List.range n).map fun k : Nat => D.int (k : Int)) (fun y => ∃ i j : Int, y = .tup [.int i, .int j]) B' (by simp; omega) (fun j x h' e B' G' => ⟨trivial, _, rfl, ?_⟩) (fun _ _ => trivial)).mono fun d h3 ⟨e, ys, hy, ly, Py, B3, G3⟩ => ?_
    · rw [List.getElem?_map] at e
      obtain ⟨q, _, rfl⟩ := Option.map_eq_some_iff.mp e
      simp [f1, f2]
      exact ⟨B', Gr.rfl⟩
    · obtain ⟨ps, rfl⟩ := pairs_of Py
      subst e
      exact ⟨⟨_, ps, rfl, hy, by have := B'.lt; omega, by simp at ly; omega, by simp at ly; omega⟩, B3, G.trans G3⟩
  unfold f__law_pairs m__law_pairs
  rw [w_run]
  refine step (fun sg h1 => sg = [some (.ref b), some (.int (w : Int)), some (.int (2 ^ w)), none, none] ∧ h1 = h) (by simp [startD, List.replicate, wl]) fun sg h1 e => ?_
  obtain ⟨rfl, rfl⟩ := e
  rw [w_seq, wp_ths, w_if, wp_th]
  have cond : (mOrT (mTest (m2 dLt (mVar 1) (mLit (.int 3)))) (mAndT (mTest (m2 (dE false) (mVar 1) (mLit (.int 3)))) (mTest (m2 (dE false) (mCall 2 f__law_draw (mCons (mVar 0) (mCons (mLit (.int 2)) mNil)) []) (mLit (.int 0))))) [some (.ref b), some (.int (w : Int)), some (.int (2 ^ w)), none, none] h1).wp fun c h' => (c = true → w ≤ 3) ∧ Gr b h1 h' ∧ BagOk h' b := by
    by_cases c : (w : Int) < 3
    · simp [c]
      exact ⟨by omega, Gr.rfl, B⟩
    · by_cases c3 : (w : Int) = 3
      · simp [c3]
        refine (draw_ok B (size := 2) (by decide) (by decide)).mono fun d h2 ⟨k, e, _, _, B2, G2⟩ => ?_
        subst e
        simp
        exact ⟨fun _ => by omega, G2, B2⟩
      · simp [c, c3]
        exact ⟨Gr.rfl, B⟩
  refine cond.mono fun c h2 ⟨c3, G2, B2⟩ => ?_
  by_cases cc : c = true
  · rw [if_pos cc, w_ret, wp_th]
    refine (small (c3 cc) h2 [] G2 B2).mono fun d h3 q => ?_
    simpa using q
  · rw [if_neg cc, Mo.w_next, wp_nx]
    have f3 : FdC 2 := fdC (by decide) (by decide)
    have ir : InR 10 := inR_of (by decide) (by decide)
    simp [ir, wipeD]
    have X : Ex h2 (h2 ++ [.lst [.int 0, .int 1, .int (2 ^ w / 2 - 1), .int (2 ^ w / 2), .int (2 ^ w - 1)]]) := Ex.app
    have en : (h2 ++ [.lst [.int 0, .int 1, .int (2 ^ w / 2 - 1), .int (2 ^ w / 2), .int (2 ^ w - 1)]])[h2.length]? = some (.lst [.int 0, .int 1, .int (2 ^ w / 2 - 1), .int (2 ^ w / 2), .int (2 ^ w - 1)]) := at_end
    have eL : h2 ++ [.lst [.int 0, .int 1, .int (2 ^ w / 2 - 1), .int (2 ^ w / 2), .int (2 ^ w - 1)], .lst []] = (h2 ++ [.lst [.int 0, .int 1, .int (2 ^ w / 2 - 1), .int (2 ^ w / 2), .int (2 ^ w - 1)]]) ++ [.lst []] := by simp
    have eN : h2.length + 1 = (h2 ++ [MO.lst [.int 0, .int 1, .int (2 ^ w / 2 - 1), .int (2 ^ w / 2), .int (2 ^ w - 1)]]).length := by simp
    rw [eL, eN]
    have rb : h2.length ≠ b := by have := B2.lt; omega
    generalize hh3 : h2 ++ [MO.lst [.int 0, .int 1, .int (2 ^ w / 2 - 1), .int (2 ^ w / 2), .int (2 ^ w - 1)]] = h3 at *
    have B3 := B2.ex X
    have one : ∀ (h' : Mh) (x4 : Option D), BagOk h' b → Gr b h3 h' → (mCall 2 f__law_of (mCons (mVar 0) (mCons (m2 dAdd (mVar 3) (mLst (mCons (mCall 2 f__law_draw (mCons (mVar 0) (mCons (mVar 2) mNil)) []) mNil))) mNil)) [] [some (.ref b), some (.int (w : Int)), some (.int (2 ^ w)), some (.ref h2.length), x4] h').wp fun d h2 => (∃ i : Int, d = .int i) ∧ BagOk h2 b ∧ Gr b h' h2 := fun h' x4 B' G' => by
      simp
      refine (draw_ok B' (size := 2 ^ w) (by omega) (by omega)).mono fun d h5 ⟨k, e, _, _, B5, G5⟩ => ?_
      subst e
      have e5 := G5.get rb (G'.get rb en)
      simp [app_get e5]
      have B6 := B5.ex (h' := h5 ++ [.lst [.int k], .lst [.int 0, .int 1, .int (2 ^ w / 2 - 1), .int (2 ^ w / 2), .int (2 ^ w - 1), .int k]]) Ex.app
      refine (of_ok (r := h5.length + 1) (ds := [.int 0, .int 1, .int (2 ^ w / 2 - 1), .int (2 ^ w / 2), .int (2 ^ w - 1), .int k]) B6 (by simp) (by have := B5.lt; omega) (by simp) (by simp)).mono fun d h7 ⟨⟨j, e⟩, B7, G7⟩ => ⟨?_, B7, G5.trans (Ex.app.gr.trans G7)⟩
      have := List.mem_of_getElem? e
      simp at this
      rcases this with e | e | e | e | e | e <;> exact ⟨_, e⟩
    refine (lc_draw (s := srcR 0 10) (g := gNm 4) (items := (List.range 10).map fun k : Nat => D.int (k : Int)) (fun y => ∃ i j : Int, y = .tup [.int i, .int j]) B3 (by simp) (fun j x h' e B' G' => ⟨trivial, _, rfl, ?_⟩) (fun _ _ => trivial)).mono fun d h4 ⟨e, ys, hy, ly, Py, B4, G4⟩ => ?_
    · rw [w_tup, w_cons, wp_bind]
      refine (one h' _ B' G').mono fun d h5 ⟨⟨i, e⟩, B5, G5⟩ => ?_
      subst e
      rw [wp_bind, w_cons, wp_bind]
      refine (one h5 _ B5 (G'.trans G5)).mono fun d h6 ⟨⟨i2, e⟩, B6, G6⟩ => ?_
      subst e
      simp
      exact ⟨B6, G5.trans G6⟩
    · obtain ⟨ps, rfl⟩ := pairs_of Py
      subst e
      simp
      have G23 : Gr b h2 h3 := X.gr
      have := B3.lt
      exact ⟨⟨ps, hy, by omega, by simp at ly; omega, by simp at ly; omega⟩, B4, G2.trans (G23.trans G4)⟩
end K03

namespace K03
open PySem PySem.Spec PyProof.Rows L2 Mo
def T.dat : T → PyData
  | .num i => .tuple [.str (Str.ofString "number"), .int i]
  | .wrd s => .tuple [.str (Str.ofString "word"), .str s]
  | .at r t => .tuple [.str (Str.ofString "at"), .str r, t.dat]
  | .pre p t => .tuple [.str p.s, t.dat]
  | .op o t u => .tuple [.str o.s, t.dat, u.dat]
theorem pd_T {h : Mh} : ∀ (t : T) (n : Nat), t.dep < n → pd n h t.d = some t.dat := by
  intro t
  induction t with
  | num i => intro n hn; obtain ⟨n, rfl⟩ : ∃ m, n = m + 2 := ⟨n - 2, by simp only [T.dep] at hn; omega⟩; rfl
  | wrd s => intro n hn; obtain ⟨n, rfl⟩ : ∃ m, n = m + 2 := ⟨n - 2, by simp only [T.dep] at hn; omega⟩; rfl
  | «at» r t ih =>
    intro n hn
    obtain ⟨n, rfl⟩ : ∃ m, n = m + 2 := ⟨n - 2, by simp only [T.dep] at hn; omega⟩
    have i := ih (n + 1) (by simp only [T.dep] at hn; omega)
    show (pdl (pd (n + 1) h) [.str _, .str r, t.d]).map PyData.tuple = _
    simp only [pdl, i]; rfl
  | pre p t ih =>
    intro n hn
    obtain ⟨n, rfl⟩ : ∃ m, n = m + 2 := ⟨n - 2, by simp only [T.dep] at hn; omega⟩
    have i := ih (n + 1) (by simp only [T.dep] at hn; omega)
    show (pdl (pd (n + 1) h) [.str _, t.d]).map PyData.tuple = _
    simp only [pdl, i]; rfl
  | op o t u i1 i2 =>
    intro n hn
    obtain ⟨n, rfl⟩ : ∃ m, n = m + 2 := ⟨n - 2, by simp only [T.dep] at hn; omega⟩
    have i := i1 (n + 1) (by simp only [T.dep] at hn; omega)
    have j := i2 (n + 1) (by simp only [T.dep] at hn; omega)
    show (pdl (pd (n + 1) h) [.str _, t.d, u.d]).map PyData.tuple = _
    simp only [pdl, i, j]; rfl
theorem kw_ok : (PyData.strOk (Str.ofString "number") = true ∧ PyData.strOk (Str.ofString "word") = true ∧ PyData.strOk (Str.ofString "at") = true) ∧ (∀ p : Pre, PyData.strOk p.s = true) ∧ ∀ o : Op, PyData.strOk o.s = true :=
  ⟨by decide +kernel, fun p => by cases p <;> decide +kernel, fun o => by cases o <;> decide +kernel⟩
theorem lay_T {ws rs : List Str} (h1 : ∀ s ∈ ws, PyData.strOk s = true) (h2 : ∀ s ∈ rs, PyData.strOk s = true) : ∀ t : T, t.ok ws rs → PyData.canLay0 t.dat = true ∧ PyData.depth t.dat ≤ t.dep := by
  obtain ⟨⟨k1, k2, k3⟩, kp, ko⟩ := kw_ok
  intro t
  induction t with
  | num i => intro _; simp [T.dat, T.dep, PyData.canLay0, PyData.canLayAll0, PyData.depth, PyData.depthAll, k1]
  | wrd s => intro ok; simp [T.dat, T.dep, PyData.canLay0, PyData.canLayAll0, PyData.depth, PyData.depthAll, k2, h1 s ok]
  | «at» r t ih =>
    intro ok
    have := ih ok.2
    simp [T.dat, T.dep, PyData.canLay0, PyData.canLayAll0, PyData.depth, PyData.depthAll, k3, h2 r ok.1, this.1, this.2]
  | pre p t ih =>
    intro ok
    have := ih ok
    simp [T.dat, T.dep, PyData.canLay0, PyData.canLayAll0, PyData.depth, PyData.depthAll, kp p, this.1, this.2]
  | op o t u i1 i2 =>
    intro ok
    have a := i1 ok.1
    have b := i2 ok.2
    simp [T.dat, T.dep, PyData.canLay0, PyData.canLayAll0, PyData.depth, PyData.depthAll, ko o, a.1, b.1]
    omega
theorem eq_T {ws rs : List Str} (h1 : ∀ s ∈ ws, PyData.strOk s = true) (h2 : ∀ s ∈ rs, PyData.strOk s = true) {t u : T} {h : Mh} (tk : t.ok ws rs) (uk : u.ok ws rs) (td : t.dep ≤ 60) (ud : u.dep ≤ 60) : ∃ c, dE false t.d u.d h = .ok (.bl c) h := by
  have a := lay_T h1 h2 t tk
  have b := lay_T h1 h2 u uk
  refine ⟨_, eq_ok (pd_T t 66 (by omega)) (pd_T u 66 (by omega)) ?_ ?_ ?_⟩
  · simp [SeqAt.shaped, a.1]; omega
  · simp [SeqAt.shaped, b.1]; omega
  · cases t <;> cases u <;> rfl
theorem ok_mono {ws ws' rs : List Str} (h : ∀ s ∈ ws, s ∈ ws') : ∀ t : T, t.ok ws rs → t.ok ws' rs := by
  intro t
  induction t with
  | num i => intro _; trivial
  | wrd s => intro ok; exact h s ok
  | «at» r t ih => intro ok; exact ⟨ok.1, ih ok.2⟩
  | pre p t ih => intro ok; exact ih ok
  | op o t u i1 i2 => intro ok; exact ⟨i1 ok.1, i2 ok.2⟩
/-- what the law's loops rest on -/
structure LX (h : Mh) (nm tb : Nat) (ns rs : List Str) (Rw : Str → List Int) (s0 s1 : Str) : Prop where
  nm : h[nm]? = some (.lst (ns.map D.str))
  rd : ∃ kvs, h[tb]? = some (.dk kvs) ∧ keysS kvs = some rs ∧ ∀ r ∈ rs, ∃ q, valD kvs (.inr r) = some (.ref q) ∧ h[q]? = some (.lst ((Rw r).map D.int)) ∧ 2 ≤ (Rw r).length ∧ (Rw r).length ≤ 100
  rn : rs.Nodup
  rl : rs.length ≤ 10
  ne : s0 ≠ s1
  n5 : ∃ s, ns[5]? = some s ∧ s ≠ s0 ∧ s ≠ s1
  n6 : ∃ s, ns[6]? = some s ∧ s ∉ rs
theorem LX.ex {h h' : Mh} {nm tb ns rs Rw s0 s1} (E : LX h nm tb ns rs Rw s0 s1) (X : Ex h h') : LX h' nm tb ns rs Rw s0 s1 := by
  obtain ⟨h3, ⟨k2, e2, g2, f2⟩, h4, h5, h6, h7, h8⟩ := E
  exact ⟨X.get h3, ⟨k2, X.get e2, g2, fun r hr => by
    obtain ⟨q, x1, x2, x3⟩ := f2 r hr
    exact ⟨q, x1, X.get x2, x3⟩⟩, h4, h5, h6, h7, h8⟩
theorem LX.ask {h : Mh} {nm tb ns rs Rw s0 s1 a} {x y : Int} (E : LX h nm tb ns rs Rw s0 s1) (ha : h[a]? = some (.dk [(.inr s0, .int x), (.inr s1, .int y)])) : Ask h a tb nm [s0, s1] rs (fun s => if s = s0 then x else y) Rw ns := by
  obtain ⟨h3, h2, h4, h5, h6, ⟨s5, e5, n50, n51⟩, h8⟩ := E
  refine ⟨⟨_, ha, rfl, fun s hs => ?_⟩, h2, h3, by simp [h6], h4, by simp, h5, ⟨s5, e5, by simp [n50, n51]⟩, h8⟩
  simp at hs
  rcases hs with rfl | rfl
  · simp [valD]
  · simp [valD, h6, h6.symm]
theorem LX.ask' {h : Mh} {nm tb ns rs Rw s0 s1 a} {x y : Int} (E : LX h nm tb ns rs Rw s0 s1) (ha : h[a]? = some (.dk [(.inr s1, .int y), (.inr s0, .int x)])) : Ask h a tb nm [s1, s0] rs (fun s => if s = s0 then x else y) Rw ns := by
  obtain ⟨h3, h2, h4, h5, h6, ⟨s5, e5, n50, n51⟩, h8⟩ := E
  refine ⟨⟨_, ha, rfl, fun s hs => ?_⟩, h2, h3, by simp [h6.symm], h4, by simp, h5, ⟨s5, e5, by simp [n50, n51]⟩, h8⟩
  simp at hs
  rcases hs with rfl | rfl
  · simp [valD, h6.symm]
  · simp [valD, h6, h6.symm]
/-- due, as a number -/
theorem num_ok {h : Mh} {a tb nm w : Nat} {ws rs W Rw ns} (A : Ask h a tb nm ws rs W Rw ns) (w1 : 1 ≤ w) (w6 : w ≤ 6) {t : T} (td : t.dep ≤ 64) (tk : t.ok ws rs) {P : D → Mh → Prop} {z : Tg P} (k : ∀ h', Ex h h' → P (.int (t.v w W Rw)) h') :
    R.wp (R.bind (f__law_due 64 [t.d, .int (w : Int), .ref a, .ref tb] h) fun d h1 => f__law_number [d] h1) P z := by
  rw [wp_bind]
  refine (due_ok w1 w6 t 64 h A.env td tk).mono fun d h1 ⟨q, e, hq, X⟩ => ?_
  subst e
  have v := v_bd (W := W) (Rw := Rw) w1 w6 t
  refine wp_of (number_eq hq bits_01 (by rw [bits_len]; omega)) ?_
  rw [numL_bits w1 w6 v.1 v.2]
  exact k h1 X
end K03

namespace K03
open PySem PySem.Spec PyProof.Rows L2 Mo
theorem BagOk.map_ne {h : Mh} {b q : Nat} {α : Type} {l : List α} {f : α → D} (B : BagOk h b) (e : h[q]? = some (.lst (l.map f))) (hf : ∀ x c, f x ≠ .ref c) : q ≠ b := by
  rintro rfl
  obtain ⟨c, cells, i, rest, mix, cnt, B⟩ := B
  have := e.symm.trans B.bag
  cases l with
  | nil => simp at this
  | cons x l =>
    simp at this
    exact hf x c this.1
theorem BagOk.dk_ne {h : Mh} {b q : Nat} {kvs} (B : BagOk h b) (e : h[q]? = some (.dk kvs)) : q ≠ b := by
  rintro rfl
  obtain ⟨c, cells, i, rest, mix, cnt, B⟩ := B
  have := e.symm.trans B.bag
  simp at this
theorem LX.gr {h h' : Mh} {b nm tb ns rs Rw s0 s1} (E : LX h nm tb ns rs Rw s0 s1) (B : BagOk h b) (G : Gr b h h') : LX h' nm tb ns rs Rw s0 s1 := by
  obtain ⟨h3, ⟨k2, e2, g2, f2⟩, h4, h5, h6, h7, h8⟩ := E
  exact ⟨G.get (B.map_ne h3 (fun _ _ z => by cases z)) h3, ⟨k2, G.get (B.dk_ne e2) e2, g2, fun r hr => by
    obtain ⟨q, x1, x2, x3⟩ := f2 r hr
    exact ⟨q, x1, G.get (B.map_ne x2 (fun _ _ z => by cases z)) x2, x3⟩⟩, h4, h5, h6, h7, h8⟩
structure Big (h : Mh) (b nm tb sm kn pr : Nat) (ns rs : List Str) (Rw : Str → List Int) (s0 s1 : Str) (ts : List T) (ps : List (Int × Int)) : Prop where
  B : BagOk h b
  L : LX h nm tb ns rs Rw s0 s1
  s : h[sm]? = some (.lst ([s0, s1].map D.str))
  k : h[kn]? = some (.lst (ts.map T.d))
  p : h[pr]? = some (.lst (ps.map pairD))
theorem T.d_ne (t : T) (c : Nat) : t.d ≠ .ref c := by cases t <;> intro z <;> cases z
theorem Big.ex {h h' : Mh} {b nm tb sm kn pr ns rs Rw s0 s1 ts ps} (E : Big h b nm tb sm kn pr ns rs Rw s0 s1 ts ps) (X : Ex h h') : Big h' b nm tb sm kn pr ns rs Rw s0 s1 ts ps := ⟨E.B.ex X, E.L.ex X, X.get E.s, X.get E.k, X.get E.p⟩
theorem Big.gr {h h' : Mh} {b nm tb sm kn pr ns rs Rw s0 s1 ts ps} (E : Big h b nm tb sm kn pr ns rs Rw s0 s1 ts ps) (G : Gr b h h') (B' : BagOk h' b) : Big h' b nm tb sm kn pr ns rs Rw s0 s1 ts ps :=
  ⟨B', E.L.gr E.B G, G.get (E.B.map_ne E.s (fun _ _ z => by cases z)) E.s, G.get (E.B.map_ne E.k T.d_ne) E.k, G.get (E.B.map_ne E.p (fun _ _ z => by cases z)) E.p⟩
abbrev sgL (b nm tb sm kn pr lt w : Nat) (top far : Int) (x7 x12 x13 x14 x15 x16 x17 x18 x19 x20 : Option D) : Sg := [some (.ref 0), some (.ref b), some (.int (w : Int)), some (.ref nm), some (.ref sm), some (.int top), some (.ref lt), x7, some (.int far), some (.ref kn), some (.ref pr), some (.ref tb), x12, x13, x14, x15, x16, x17, x18, x19, x20]
theorem body_ok {h : Mh} {b nm tb sm kn pr lt w : Nat} {ns rs Rw s0 s1 ts ps} {top far : Int} {x7 x12 x15 x18 x19 x20 : Option D} {t : T} {tn x y : Int} (E : Big h b nm tb sm kn pr ns rs Rw s0 s1 ts ps) (w1 : 1 ≤ w) (w6 : w ≤ 6) (td : t.dep ≤ 64) (tk : t.ok [s0, s1] rs) (tn0 : 0 ≤ tn) (tn2 : tn ≤ 2) :
    RS.wp ((sSeq (sSet 18 (mDisp (mPCons (m2 dIx (mVar 4) (mLit (.int 0))) (mVar 16) (mPCons (m2 dIx (mVar 4) (mLit (.int 1))) (mVar 17) mPNil))))
    (sSeq (sSet 19 (mCall 1 f__law_number (mCons (mCall 4 (f__law_due 64) (mCons (mVar 13) (mCons (mVar 2) (mCons (mVar 18) (mCons (mVar 11) mNil)))) []) mNil) []))
    (sIf (mNotT (mTru (mCall 2 (f__law_like 8) (mCons (mCall 6 f__law_asked (mCons (mVar 13) (mCons (mVar 2) (mCons (mVar 18) (mCons (mVar 11) (mCons (mVar 3) (mCons (mVar 14) mNil)))))) []) (mCons (mVar 19) mNil)) []))) (sRet (mLit (.bl false))) sNext)))
     (sgL b nm tb sm kn pr lt w top far x7 x12 (some t.d) (some (.int tn)) x15 (some (.int x)) (some (.int y)) x18 x19 x20) h)
    (fun sg h' => ∃ x18 x19, sg = sgL b nm tb sm kn pr lt w top far x7 x12 (some t.d) (some (.int tn)) x15 (some (.int x)) (some (.int y)) x18 x19 x20 ∧ Big h' b nm tb sm kn pr ns rs Rw s0 s1 ts ps ∧ Ex h h') (fun d _ => d = .bl true) := by
  have ne := E.L.ne
  have ne' : ¬ s1 = s0 := fun z => ne z.symm
  have hs := E.s
  simp only [List.map_cons, List.map_nil] at hs
  simp [app_get hs, atI, ixN, keyPs, mergeD, putD, ne, ne', List.set_append]
  have X : Ex h (h ++ [.dk [(.inr s0, .int x), (.inr s1, .int y)]]) := Ex.app
  have ha : (h ++ [.dk [(.inr s0, .int x), (.inr s1, .int y)]])[h.length]? = some (.dk [(.inr s0, .int x), (.inr s1, .int y)]) := at_end
  have E2 := E.ex X
  have X0 := X
  generalize h ++ [.dk [(.inr s0, .int x), (.inr s1, .int y)]] = h2 at *
  have A := E2.L.ask ha
  refine (due_ok w1 w6 t 64 h2 A.env td tk).mono fun d h3 ⟨q, e, hq, X3⟩ => ?_
  subst e
  have v := v_bd (W := fun s => if s = s0 then x else y) (Rw := Rw) w1 w6 t
  simp
  refine wp_of (number_eq hq bits_01 (by rw [bits_len]; omega)) ?_
  rw [numL_bits w1 w6 v.1 v.2]
  simp
  refine (asked_ok (A.ex X3) w1 w6 td tk tn0 tn2).mono fun d h4 ⟨e, X4⟩ => ?_
  subst e
  simp
  refine like_int.mono fun d h5 ⟨e, e2⟩ => ?_
  subst e e2
  simp
  exact ⟨E2.ex (X3.trans X4), X0.trans (X3.trans X4)⟩
end K03

namespace K03
open PySem PySem.Spec PyProof.Rows L2 Mo
theorem back_at {ts : List T} (l2 : 2 ≤ ts.length) : (∃ u ∈ ts, atI (ts.map T.d) (-1) = some u.d) ∧ ∃ u ∈ ts, atI (ts.map T.d) (-2) = some u.d := by
  have key : ∀ i : Nat, 1 ≤ i → i ≤ 2 → ∃ u ∈ ts, atI (ts.map T.d) (-(i : Int)) = some u.d := fun i h1 h2 => by
    have l : ts.length - i < ts.length := by omega
    refine ⟨ts[ts.length - i], List.getElem_mem l, ?_⟩
    have e : ixN (ts.map T.d).length (-(i : Int)) = some (ts.length - i) := by
      unfold ixN
      rw [if_neg (by omega), List.length_map, if_pos (by omega)]
      congr 1; omega
    unfold atI
    rw [e]
    show (ts.map T.d)[ts.length - i]? = _
    rw [List.getElem?_map, List.getElem?_eq_getElem l]; rfl
  exact ⟨key 1 (by decide) (by decide), key 2 (by decide) (by decide)⟩
theorem cut8 {ps : List (Int × Int)} {k : Nat} : Mo.cutD (ps.map pairD) none (some (k : Int)) = (ps.take k).map pairD := by
  unfold Mo.cutD
  rw [HT.sIx_none, HT.sIx_nat, List.length_map, List.drop_zero, Nat.sub_zero, ← List.map_take]
  congr 1
  by_cases c : k ≤ ps.length
  · rw [Nat.min_eq_left c]
  · rw [Nat.min_eq_right (by omega), List.take_length, List.take_of_length_le (by omega)]
noncomputable abbrev inB : Sg → Mh → RS := (sSeq (sSet 18 (mDisp (mPCons (m2 dIx (mVar 4) (mLit (.int 0))) (mVar 16) (mPCons (m2 dIx (mVar 4) (mLit (.int 1))) (mVar 17) mPNil))))
    (sSeq (sSet 19 (mCall 1 f__law_number (mCons (mCall 4 (f__law_due 64) (mCons (mVar 13) (mCons (mVar 2) (mCons (mVar 18) (mCons (mVar 11) mNil)))) []) mNil) []))
    (sIf (mNotT (mTru (mCall 2 (f__law_like 8) (mCons (mCall 6 f__law_asked (mCons (mVar 13) (mCons (mVar 2) (mCons (mVar 18) (mCons (mVar 11) (mCons (mVar 3) (mCons (mVar 14) mNil)))))) []) (mCons (mVar 19) mNil)) []))) (sRet (mLit (.bl false))) sNext)))
noncomputable abbrev outB : Sg → Mh → RS := (sSeq (sSet 14 (mCall 2 f__law_draw (mCons (mVar 1) (mCons (mLit (.int 3)) mNil)) []))
    (sSeq (sSet 15 (mOr (m2 (dE false) (mVar 13) (m2 dIx (mVar 9) (m1 dNeg (mLit (.int 1))))) (m2 (dE false) (mVar 13) (m2 dIx (mVar 9) (m1 dNeg (mLit (.int 2)))))))
    (sSeq (sFor (mIter (mIte (mTru (mVar 15)) (mSl (mVar 10) mNoP (mPart (mLit (.int 8)))) (mVar 10))) (gTp 2 (gsCons (gNm 16) (gsCons (gNm 17) gsNil))) inB)
    (sSeq (sSet 18 (mDisp (mPCons (m2 dIx (mVar 4) (mLit (.int 1))) (m2 dIx (m2 dIx (mVar 10) (mLit (.int 0))) (mLit (.int 1))) (mPCons (m2 dIx (mVar 4) (mLit (.int 0))) (m2 dIx (m2 dIx (mVar 10) (mLit (.int 0))) (mLit (.int 0))) mPNil))))
    (sSeq (sSet 20 (mLc (mRange1 (mLit (.int 3))) (gNm 7) mYes (mCall 6 f__law_asked (mCons (mVar 13) (mCons (mVar 2) (mCons (mVar 18) (mCons (mVar 11) (mCons (mVar 3) (mCons (mVar 7) mNil)))))) []) [7]))
    (sIf (mNotT (mTru (mCall 2 (f__law_like 8) (mCons (mVar 20) (mCons (m2 dMul (mLst (mCons (mCall 1 f__law_number (mCons (mCall 4 (f__law_due 64) (mCons (mVar 13) (mCons (mVar 2) (mCons (mVar 18) (mCons (mVar 11) mNil)))) []) mNil) []) mNil)) (mLit (.int 3))) mNil)) []))) (sRet (mLit (.bl false))) sNext))))))
theorem stepT {m n : Sg → Mh → RS} {sg : Sg} {h : Mh} {N : Sg → Mh → Prop} {T : D → Mh → Prop} {z y} (M : Sg → Mh → Prop) (w : (m sg h).wp M T) (k : ∀ sg h, M sg h → (n sg h).wp N T) : (sSeq m n sg h).wp N T z y := by
  rw [w_seq, wp_ths]
  exact w.mono (fun sg h p => k sg h p) (fun _ _ z => z)
theorem rep_like {h : Mh} {n : Nat} {v : Int} {P : D → Mh → Prop} {z : Tg P} (e : h[n]? = some (.lst [.int v])) (p : P (.ref h.length) (h ++ [.lst ([v, v, v].map D.int)])) : R.wp (dMul (.ref n) (.int 3) h) P z := by
  have : dMul (.ref n) (.int 3) h = .ok (.ref h.length) (h ++ [.lst ([v, v, v].map D.int)]) := by
    show (match h[n]? with
      | some (.lst a) => if -(2 ^ 63) ≤ (3 : Int) ∧ (3 : Int) < 2 ^ 63 ∧ a.length * (3 : Int).toNat ≤ sizeLine then .ok (.ref h.length) (h ++ [.lst (List.replicate (3 : Int).toNat a).flatten]) else .bad
      | _ => .bad : R D) = _
    rw [e]
    exact if_pos ⟨by decide, by decide, Nat.le_trans (show 1 * 3 ≤ 1000 by decide) line_le⟩
  exact wp_of this p
theorem out_ok {h : Mh} {b nm tb sm kn pr lt w : Nat} {ns rs Rw s0 s1 ts ps} {top far : Int} {x7 x12 x14 x15 x16 x17 x18 x19 x20 : Option D} {t : T} (E : Big h b nm tb sm kn pr ns rs Rw s0 s1 ts ps) (w1 : 1 ≤ w) (w6 : w ≤ 6) (tt : t ∈ ts) (td : ∀ t ∈ ts, t.dep ≤ 40 ∧ t.ok [s0, s1] rs) (l2 : 2 ≤ ts.length) (lp : 1 ≤ ps.length) (lp2 : ps.length ≤ 100) (ok1 : ∀ s ∈ [s0, s1], PyData.strOk s = true) (ok2 : ∀ s ∈ rs, PyData.strOk s = true) :
    RS.wp (outB (sgL b nm tb sm kn pr lt w top far x7 x12 (some t.d) x14 x15 x16 x17 x18 x19 x20) h)
    (fun sg h' => ∃ x7 x12 x14 x15 x16 x17 x18 x19 x20, sg = sgL b nm tb sm kn pr lt w top far x7 x12 (some t.d) x14 x15 x16 x17 x18 x19 x20 ∧ Big h' b nm tb sm kn pr ns rs Rw s0 s1 ts ps) (fun d _ => d = .bl true) := by
  obtain ⟨tdd, tk⟩ := td t tt
  have td64 : t.dep ≤ 64 := by omega
  unfold outB
  refine stepT (fun sg h' => (∃ tn : Int, sg = sgL b nm tb sm kn pr lt w top far x7 x12 (some t.d) (some (.int tn)) x15 x16 x17 x18 x19 x20 ∧ 0 ≤ tn ∧ tn < 3) ∧ BagOk h' b ∧ Gr b h h') ?_ fun sg h1 ⟨⟨tn, e, tn0, tn2⟩, B1, G1⟩ => ?_
  · simp
    refine (draw_ok E.B (size := 3) (by decide) (by decide)).mono fun d h1 ⟨tn, e, tn0, tn2, B1, G1⟩ => ?_
    subst e
    simp
    exact ⟨⟨tn0, tn2⟩, B1, G1⟩
  subst e
  have E1 := E.gr G1 B1
  obtain ⟨⟨u1, m1', a1⟩, u2, m2', a2⟩ := back_at l2
  obtain ⟨c1, q1⟩ := eq_T (h := h1) ok1 ok2 tk (td u1 m1').2 (by omega) (by have := (td u1 m1').1; omega)
  obtain ⟨c2, q2⟩ := eq_T (h := h1) ok1 ok2 tk (td u2 m2').2 (by omega) (by have := (td u2 m2').1; omega)
  refine stepT (fun sg h' => ∃ c, sg = sgL b nm tb sm kn pr lt w top far x7 x12 (some t.d) (some (.int tn)) (some (.bl c)) x16 x17 x18 x19 x20 ∧ h' = h1) ?_ fun sg h2 ⟨c, e, e2⟩ => ?_
  · simp [E1.k, a1, q1]
    cases c1
    · simp [E1.k, a2, q2]
    · simp
  subst e e2
  refine stepT (fun sg h' => (∃ x16 x17 x18 x19, sg = sgL b nm tb sm kn pr lt w top far x7 x12 (some t.d) (some (.int tn)) (some (.bl c)) x16 x17 x18 x19 x20) ∧ Big h' b nm tb sm kn pr ns rs Rw s0 s1 ts ps) ?_ fun sg h3 ⟨⟨y16, y17, y18, y19, e⟩, E3⟩ => ?_
  · have go : ∀ (r : Nat) (l : List (Int × Int)) (hx : Mh), hx[r]? = some (.lst (l.map pairD)) → Big hx b nm tb sm kn pr ns rs Rw s0 s1 ts ps → (forL (srcL r (l.map pairD)) (gTp 2 (gsCons (gNm 16) (gsCons (gNm 17) gsNil))) inB (l.map pairD) 0 (sgL b nm tb sm kn pr lt w top far x7 x12 (some t.d) (some (.int tn)) (some (.bl c)) x16 x17 x18 x19 x20) hx).wp (fun sg h' => (∃ x16 x17 x18 x19, sg = sgL b nm tb sm kn pr lt w top far x7 x12 (some t.d) (some (.int tn)) (some (.bl c)) x16 x17 x18 x19 x20) ∧ Big h' b nm tb sm kn pr ns rs Rw s0 s1 ts ps) (fun d _ => d = .bl true) := fun r l hx hr Ex0 => by
      refine loop (fun j sg h' => (∃ x16 x17 x18 x19, sg = sgL b nm tb sm kn pr lt w top far x7 x12 (some t.d) (some (.int tn)) (some (.bl c)) x16 x17 x18 x19 x20) ∧ Big h' b nm tb sm kn pr ns rs Rw s0 s1 ts ps ∧ h'[r]? = some (.lst (l.map pairD))) ⟨⟨_, _, _, _, rfl⟩, Ex0, hr⟩ (fun j x sg h' e ⟨⟨x16, x17, x18, x19, es⟩, Ej, hrj⟩ => ?_) (fun sg h' ⟨e, Ej, hrj⟩ => ⟨srcL_fin hrj, e, Ej⟩)
      subst es
      have e' := e
      rw [List.getElem?_map] at e'
      obtain ⟨p, _, rfl⟩ := Option.map_eq_some_iff.mp e'
      refine ⟨srcL_at hrj e, _, rfl, ?_⟩
      refine (body_ok (x := p.1) (y := p.2) Ej w1 w6 td64 tk tn0 (by omega)).mono (fun sg h'' ⟨x18, x19, es, Ek, X⟩ => ?_) (fun _ _ z => z)
      exact ⟨⟨_, _, _, _, es⟩, Ek, X.get hrj⟩
    rw [w_for, wp_th]
    have c8 : Mo.cutD (ps.map pairD) none (some 8) = (ps.take 8).map pairD := cut8 (k := 8)
    cases c
    · simp [E1.p]
      exact go pr ps h2 E1.p E1
    · simp [E1.p, c8]
      simpa using go h2.length (ps.take 8) (h2 ++ [.lst ((ps.take 8).map pairD)]) at_end (E1.ex Ex.app)
  subst e
  obtain ⟨p0, pt, ep⟩ : ∃ p0 pt, ps = p0 :: pt := by
    cases ps with
    | nil => exact absurd lp (by simp)
    | cons p0 pt => exact ⟨p0, pt, rfl⟩
  have ne := E.L.ne
  have ne' : ¬ s1 = s0 := fun z => ne z.symm
  refine stepT (fun sg h' => (∃ a, sg = sgL b nm tb sm kn pr lt w top far x7 x12 (some t.d) (some (.int tn)) (some (.bl c)) y16 y17 (some (.ref a)) y19 x20 ∧ h'[a]? = some (.dk [(.inr s1, .int p0.2), (.inr s0, .int p0.1)])) ∧ Big h' b nm tb sm kn pr ns rs Rw s0 s1 ts ps) ?_ fun sg h4 ⟨⟨a, e, ha⟩, E4⟩ => ?_
  · have hs := E3.s
    simp only [List.map_cons, List.map_nil] at hs
    have hp : h3[pr]? = some (.lst (pairD p0 :: pt.map pairD)) := by rw [E3.p, ep]; rfl
    simp [app_get hs, app_get hp, atI_0, pairD, atI, ixN, keyPs, mergeD, putD, ne, ne', List.set_append]
    exact E3.ex Ex.app
  subst e
  have A4 := E4.L.ask' ha
  have tk' : t.ok [s1, s0] rs := ok_mono (by simp) t tk
  refine stepT (fun sg h' => (∃ q, sg = sgL b nm tb sm kn pr lt w top far x7 x12 (some t.d) (some (.int tn)) (some (.bl c)) y16 y17 (some (.ref a)) y19 (some (.ref q)) ∧ h'[q]? = some (.lst ([t.v w (fun s => if s = s0 then p0.1 else p0.2) Rw, t.v w (fun s => if s = s0 then p0.1 else p0.2) Rw, t.v w (fun s => if s = s0 then p0.1 else p0.2) Rw].map D.int))) ∧ h'[a]? = some (.dk [(.inr s1, .int p0.2), (.inr s0, .int p0.1)]) ∧ Big h' b nm tb sm kn pr ns rs Rw s0 s1 ts ps) ?_ fun sg h5 ⟨⟨q, e, hq⟩, ha5, E5⟩ => ?_
  · have i3 : InR 3 := inR_of (by decide) (by decide)
    have ab := E4.B.dk_ne ha
    simp [i3, wipeD]
    refine (lc_draw (s := srcR 0 3) (g := gNm 7) (items := (List.range 3).map fun k : Nat => D.int (k : Int)) (fun y => y = .int (t.v w (fun s => if s = s0 then p0.1 else p0.2) Rw)) E4.B (by simp) (fun j x h' e B' G' => ⟨trivial, _, rfl, ?_⟩) (fun _ _ => trivial)).mono fun d h6 ⟨e, ys, hy, ly, Py, B6, G6⟩ => ?_
    · have ej : ∃ k : Nat, k < 3 ∧ x = .int (k : Int) := by
        rw [List.getElem?_map] at e
        obtain ⟨k, e1, rfl⟩ := Option.map_eq_some_iff.mp e
        have := List.mem_of_getElem? e1
        exact ⟨k, by simpa using this, rfl⟩
      obtain ⟨k, k3, rfl⟩ := ej
      simp
      have E' := E4.gr G' B'
      refine (asked_ok (E'.L.ask' (G'.get ab ha)) w1 w6 td64 tk' (tn := (k : Int)) (by omega) (by omega)).mono fun d h7 ⟨e, X⟩ => ⟨e, B'.ex X, X.gr⟩
    · subst e
      simp
      refine ⟨?_, G6.get ab ha, E4.gr G6 B6⟩
      match ys, ly, Py, hy with
      | [y1, y2, y3], _, Py, hy =>
        rw [Py y1 (by simp), Py y2 (by simp), Py y3 (by simp)] at hy
        exact hy
  subst e
  have A5 := E5.L.ask' ha5
  simp
  refine (due_ok w1 w6 t 64 h5 A5.env td64 tk').mono fun d h6 ⟨q6, e, hq6, X6⟩ => ?_
  subst e
  have v := v_bd (W := fun s => if s = s0 then p0.1 else p0.2) (Rw := Rw) w1 w6 t
  simp
  refine wp_of (number_eq hq6 bits_01 (by rw [bits_len]; omega)) ?_
  rw [numL_bits w1 w6 v.1 v.2]
  generalize t.v w (fun s => if s = s0 then p0.1 else p0.2) Rw = vv at *
  simp
  refine rep_like (v := vv) at_end ?_
  simp
  have hq7 := X6.get hq
  refine (like_list (k := 6) (r2 := h6.length + 1) (xs := [vv, vv, vv]) (h := h6 ++ [.lst [.int vv], .lst [.int vv, .int vv, .int vv]]) (app_get hq7) (by simp) (by simp)).mono fun d h7 ⟨e, X7⟩ => ?_
  subst e
  simp
  exact E5.ex (X6.trans (Ex.app.trans X7))
end K03

namespace K03
open PySem PySem.Spec PyProof.Rows L2 Mo
structure SOk (s : Str) (n : Nat) : Prop where
  ok : ∀ c ∈ s.cps.toList, c < 0x110000
  len : s.length ≤ n
theorem SOk.str {s : Str} {n : Nat} (h : SOk s n) : PyData.strOk s = true := by
  unfold PyData.strOk
  rw [← Array.all_toList, List.all_eq_true]
  exact fun c hc => decide_eq_true (h.ok c hc)
theorem sok_of {s : Str} {n : Nat} (h : (s.cps.toList.all fun c => decide (c < 0x110000)) = true) (l : s.length ≤ n) : SOk s n := ⟨fun c hc => of_decide_eq_true (List.all_eq_true.mp h c hc), l⟩
theorem sok_cut {s : Str} {n : Nat} (h : SOk s n) (lo hi : Option Int) : SOk (L2.cutS s lo hi) n := by
  have m : ∀ c ∈ (L2.cutS s lo hi).cps.toList, c ∈ s.cps.toList := fun c hc => by
    unfold L2.cutS at hc
    simp only [List.toList_toArray] at hc
    exact List.mem_of_mem_drop (List.mem_of_mem_take hc)
  refine ⟨fun c hc => h.ok c (m c hc), ?_⟩
  have : (L2.cutS s lo hi).length ≤ s.length := by
    unfold L2.cutS Str.length
    simp
    omega
  exact Nat.le_trans this h.len
theorem sok_app {s t : Str} {n m : Nat} (h : SOk s n) (k : SOk t m) : SOk (s ++ t) (n + m) := by
  have e : (s ++ t).cps = s.cps ++ t.cps := rfl
  refine ⟨fun c hc => ?_, ?_⟩
  · rw [e, Array.toList_append] at hc
    rcases List.mem_append.mp hc with hc | hc
    · exact h.ok c hc
    · exact k.ok c hc
  · have a := h.len
    have b := k.len
    unfold Str.length at *
    rw [e, Array.size_append]; omega
theorem sok_one {c n : Nat} (h : c < 0x110000) (hn : 1 ≤ n) : SOk ⟨#[c]⟩ n := ⟨fun d hd => by simp at hd; omega, hn⟩
theorem sok_join {ys : List Str} (h : ∀ y ∈ ys, SOk y 1) (l : ys.length ≤ 6) : SOk (Txt.join (Str.ofString "") ys) 6 := by
  have e0 : (Str.ofString "").cps = #[] := by decide +kernel
  have all : ∀ (rest : List Str) (acc : Array Nat), (∀ y ∈ rest, SOk y 1) → (∀ c ∈ acc.toList, c < 0x110000) → ∀ c ∈ (rest.foldl (fun acc p => acc ++ (Str.ofString "").cps ++ p.cps) acc).toList, c < 0x110000 := fun rest => by
    induction rest with
    | nil => intro acc _ h2; exact h2
    | cons y rest ih =>
      intro acc h1 h2
      refine ih _ (fun z hz => h1 z (by simp [hz])) fun c hc => ?_
      rw [e0] at hc
      simp at hc
      rcases hc with hc | hc
      · exact h2 c (by simpa using hc)
      · exact (h1 y (by simp)).ok c (by simpa using hc)
  refine ⟨?_, ?_⟩
  · show ∀ c ∈ ((ys.drop 1).foldl (fun acc p => acc ++ (Str.ofString "").cps ++ p.cps) (ys.headD Str.empty).cps).toList, c < 0x110000
    refine all _ _ (fun y hy => h y (List.mem_of_mem_drop hy)) ?_
    cases ys with
    | nil => intro c hc; simp [Str.empty] at hc
    | cons y ys => exact (h y (by simp)).ok
  · have : (Txt.join (Str.ofString "") ys).length = (ys.map (·.length)).sum + (ys.length - 1) * (Str.ofString "").length := PySem.size_glued _ ys
    rw [this, show (Str.ofString "").length = 0 by decide +kernel]
    have : ∀ l : List Str, (∀ y ∈ l, SOk y 1) → (l.map (·.length)).sum ≤ l.length := fun l => by
      induction l with
      | nil => intro _; simp
      | cons y l ih =>
        intro h
        have a := ih fun z hz => h z (by simp [hz])
        have b := (h y (by simp)).len
        simp
        omega
    have := this ys h
    omega
@[simp] theorem in_chr {neg : Bool} {c : Nat} {b : Str} {h : Mh} : dIn neg (.str ⟨#[c]⟩) (.str b) h = .ok (.bl (if neg then !decide (c ∈ b.cps.toList) else decide (c ∈ b.cps.toList))) h := rfl
@[simp] theorem in_lst {neg : Bool} {a : Str} {n : Nat} {h : Mh} : dIn neg (.str a) (.ref n) h = match h[n]? with
    | some (.lst ds) => if flatD (.str a) = true ∧ ds.all flatD = true then .ok (.bl (if neg then !(ds.any fun y => eqF y (.str a)) else ds.any fun y => eqF y (.str a))) h else .bad
    | _ => .bad := rfl
open Classical in
@[simp] theorem add_ss {a b : Str} {h : Mh} : dAdd (.str a) (.str b) h = if LenE (a.length + b.length) then .ok (.str (a ++ b)) h else .bad := by
  by_cases c : LenE (a.length + b.length)
  · rw [if_pos c]; exact if_pos c.r
  · rw [if_neg c]; exact if_neg fun z => c ⟨z⟩
theorem any_eq {l : List Str} {s : Str} : ((l.map D.str).any fun y => eqF y (.str s)) = decide (s ∈ l) := by
  induction l with
  | nil => simp
  | cons x l ih =>
    simp only [List.map_cons, List.any_cons, ih, eqF_ss, List.mem_cons, Bool.decide_or]
    congr 1
    simp [eq_comm]
theorem flat_strs {l : List Str} : (l.map D.str).all flatD = true := by
  induction l with
  | nil => rfl
  | cons x l ih => simp [ih]
@[simp] theorem it_str {z : Str} {h : Mh} : dIter (.str z) h = .ok (srcS z) h := rfl
@[simp] theorem srcS_items {z : Str} : (srcS z).items = z.cps.toList.map fun c => D.str ⟨#[c]⟩ := rfl
theorem comp_signs {sg : Sg} {h : Mh} {m : Sg → Mh → R D} {s A : Str} (ss : SOk s 100) (sl : 1 < sg.length) (hm : m sg h = .ok (.str s) h) : (mLc (mIter m) (gNm 1) (mTest (m2 (dIn true) (mVar 1) (mLit (.str A)))) (mVar 1) [1] sg h).wp fun d h' => ∃ r, ∃ cs : List Str, d = .ref r ∧ h'[r]? = some (.lst (cs.map D.str)) ∧ (∀ c ∈ cs, PyData.strOk c = true) ∧ Ex h h' := by
  rw [w_lc, wp_bind, w_iter, wp_bind, hm]
  simp only [wp_ok, it_str, srcS_items]
  have F : ∃ F : Nat → Bool, ∀ c, F c = !decide (c ∈ A.cps.toList) := ⟨_, fun _ => rfl⟩
  obtain ⟨F, hF⟩ := F
  have p : ∃ p : D → Bool, ∀ c, p (.str ⟨#[c]⟩) = F c := ⟨fun d => match d with
    | .str ⟨x⟩ => F (x.toList.headD 0)
    | _ => false, fun c => rfl⟩
  obtain ⟨p, hp⟩ := p
  refine wp_of (lc_pure (s := srcS s) (g := gNm 1) p id (Nat.le_trans (by have := ss.len; unfold Str.length at this; simp; omega) line_le) (fun j x acc e => ?_) (fun acc => trivial)) ?_
  · rw [List.getElem?_map] at e
    obtain ⟨c, _, rfl⟩ := Option.map_eq_some_iff.mp e
    refine ⟨trivial, _, rfl, ?_⟩
    have v1 : ((wipeD sg [1]).set 1 (some (.str ⟨#[c]⟩)))[1]? = some (some (.str ⟨#[c]⟩)) := by simp [wipeD, sl]
    constructor
    · have : (mTest (m2 (dIn true) (mVar 1) (mLit (.str A))) ((wipeD sg [1]).set 1 (some (.str ⟨#[c]⟩))) (h ++ [.lst acc])).wp fun b h' => b = p (.str ⟨#[c]⟩) ∧ h' = h ++ [.lst acc] := by
        rw [w_test, wp_bind, w_m2, wp_bind, w_var, v1]
        simp [hp, hF]
      obtain ⟨b, h', e1, rfl, rfl⟩ := this.out
      exact e1
    · intro _
      show (match ((wipeD sg [1]).set 1 (some (D.str ⟨#[c]⟩)))[1]? with
        | some (some d) => R.ok d _
        | _ => .bad) = _
      rw [v1]; rfl
  · refine ⟨h.length, (s.cps.toList.filter F).map fun c => ⟨#[c]⟩, rfl, ?_, fun c hc => ?_, Ex.app⟩
    · rw [at_end, List.map_id, List.filter_map]
      congr 2
      rw [List.map_map]
      have : (p ∘ fun c => D.str ⟨#[c]⟩) = F := funext hp
      rw [this]; rfl
    · obtain ⟨x, hx, rfl⟩ := List.mem_map.mp hc
      exact SOk.str (sok_one (n := 1) (ss.ok x (List.mem_filter.mp hx).1) (by decide))
theorem ne_strs {h : Mh} {r r2 : Nat} {cs : List Str} (h1 : h[r]? = some (.lst (cs.map D.str))) (h2 : h[r2]? = some (.lst [])) (ok : ∀ c ∈ cs, PyData.strOk c = true) : dE true (.ref r) (.ref r2) h = .ok (.bl (!(cs.map PyData.str).isEmpty)) h :=
  ne_empty h1 h2 (pdl_map (n := 65) (F := D.str) (G := PyData.str) (fun s _ => rfl)) (fun p hp => by
    obtain ⟨s, hs, rfl⟩ := List.mem_map.mp hp
    exact good_str (ok s hs))
theorem is_name_ok {h : Mh} {s : Str} (ss : SOk s 100) : (f__law_is_name [.str s] h).wp fun d h' => (∃ c, d = .bl c) ∧ Ex h h' := by
  have le : LenE s.length := lenE (by have := ss.len; omega)
  unfold f__law_is_name m__law_is_name
  rw [w_run]
  by_cases c : 1 ≤ s.length ∧ s.length ≤ 8
  · have c1 : (1 : Int) ≤ (s.length : Int) := by omega
    have c2 : (s.length : Int) ≤ 8 := by omega
    have l0 : 0 < s.cps.toList.length := by have := c.1; unfold Str.length at this; simp; omega
    obtain ⟨c0, cr, ec⟩ : ∃ c0 cr, s.cps.toList = c0 :: cr := by
      cases e : s.cps.toList with
      | nil => rw [e] at l0; exact absurd l0 (by simp)
      | cons a r => exact ⟨a, r, rfl⟩
    have own : (f__law_own_words [] h).wp fun d h' => ∃ L : List Str, d = .ref h.length ∧ h' = h ++ [.lst (L.map D.str)] := by
      unfold f__law_own_words m__law_own_words
      simp [startD]
      exact ⟨[Str.ofString "width", Str.ofString "secret", Str.ofString "word", Str.ofString "row", Str.ofString "if", Str.ofString "else", Str.ofString "while", Str.ofString "end", Str.ofString "show", Str.ofString "stop", Str.ofString "half", Str.ofString "twice"], rfl⟩
    refine stepT (fun sg h' => sg = [some (.str s), none] ∧ Ex h h') (T := fun d h' => (∃ c, d = .bl c) ∧ Ex h h') ?_ fun sg h1 ⟨e, X1⟩ => ?_
    · simp [startD, List.replicate, le, c1, c2]
      refine own.mono fun d h' ⟨L, e1, e2⟩ => ?_
      subst e1 e2
      simp [-List.map_cons, flat_strs, any_eq, atI_0, le, ec, atI, ixN]
      have X : Ex h (h ++ [.lst (L.map D.str)]) := Ex.app
      by_cases q1 : s ∈ L
      · simp [q1, X]
      · by_cases q2 : c0 ∈ (Str.ofString "abcdefghijklmnopqrstuvwxyz").cps
        · simp [q1, q2, X]
        · simp [q1, q2, X]
    subst e
    refine stepT (fun sg h' => sg = [some (.str s), none] ∧ Ex h h') (T := fun d h' => (∃ c, d = .bl c) ∧ Ex h h') ?_ fun sg h2 ⟨e, X2⟩ => ?_
    · rw [w_if, wp_th, w_test, wp_bind, w_m2, wp_bind]
      refine (comp_signs ss (by simp) rfl).mono fun d h3 ⟨r, cs, e, hr, ok, X⟩ => ?_
      subst e
      simp
      refine wp_of (ne_strs (app_get hr) at_end ok) ?_
      cases hb : (cs.map PyData.str).isEmpty
      · simp
        exact X1.trans (X.trans Ex.app)
      · simp
        exact X1.trans (X.trans Ex.app)
    subst e
    have sc := sok_cut ss (some 1) none
    rw [w_ret, wp_th, w_or, wp_bind]
    refine R.wp.mono (P := fun d h' => (∃ b, d = .bl b) ∧ h' = h2) (z := ⟨⟩) (by simp [le, atI, ixN, ec]; exact Classical.em _) fun d h' ⟨⟨b, e⟩, e2⟩ => ?_
    subst e e2
    simp only [tru_b, wp_ok, wp_bind]
    cases b
    · rw [if_neg (by simp), w_or, wp_bind]
      refine R.wp.mono (P := fun d h'' => (∃ b, d = .bl b) ∧ h'' = h') (z := ⟨⟩) (by simp [le]) fun d h'' ⟨⟨b, e⟩, e2⟩ => ?_
      subst e e2
      simp only [tru_b, wp_ok, wp_bind]
      cases b
      · rw [if_neg (by simp), w_m2, wp_bind]
        have hm : (mSl (mVar 0) (mPart (mLit (.int 1))) mNoP [some (.str s), none] h'').wp fun d h3 => d = .str (L2.cutS s (some 1) none) ∧ h3 = h'' := by simp [le]
        obtain ⟨d, h3, hm, rfl, rfl⟩ := hm.out
        refine (comp_signs sc (by simp) hm).mono fun d h4 ⟨r, cs, e, hr, ok, X⟩ => ?_
        subst e
        simp
        refine wp_of (ne_strs (app_get hr) at_end ok) ?_
        simp
        exact ⟨Classical.em _, X2.trans (X.trans Ex.app)⟩
      · simp
        exact X2
    · simp
      exact X2
  · have cc : ¬ ((1 : Int) ≤ (s.length : Int) ∧ (s.length : Int) ≤ 8) := by omega
    rw [w_seq, wp_ths]
    by_cases c1 : (1 : Int) ≤ (s.length : Int)
    · have c2 : ¬ (s.length : Int) ≤ 8 := fun z => cc ⟨c1, z⟩
      simp [startD, List.replicate, le, c1, c2]
      exact Ex.rfl
    · simp [startD, List.replicate, le, c1]
      exact Ex.rfl
def stems : List Str := [Str.ofString "", Str.ofString "", Str.ofString "a", Str.ofString "t", Str.ofString "x1", Str.ofString "self", Str.ofString "hal", Str.ofString "load", Str.ofString "widths", Str.ofString "ro2", Str.ofString "tt0", Str.ofString "*"]
theorem stems_ok : ∀ s ∈ stems, SOk s 6 := by
  have : ∀ s ∈ stems, (s.cps.toList.all fun c => decide (c < 0x110000)) = true ∧ s.length ≤ 6 := by decide +kernel
  exact fun s hs => sok_of (this s hs).1 (this s hs).2
def pool0 : List Str := [Str.ofString "a", Str.ofString "self", Str.ofString "t", Str.ofString "t1a", Str.ofString "load", Str.ofString "zzzzzzzz", Str.ofString "index", Str.ofString "width2", Str.ofString "ifs"]
theorem pool0_ok : pool0.Nodup ∧ (∀ s ∈ pool0, PyData.strOk s = true) ∧ pool0.length = 9 := by decide +kernel
def abc : Str := Str.ofString "abcdefghijklmnopqrstuvwxyz"
def abc9 : Str := Str.ofString "abcdefghijklmnopqrstuvwxyz0123456789"
def bton : Str := Str.ofString "bcdefghijklmn"
theorem abc_ok : (∀ c ∈ abc.cps.toList, c < 0x110000) ∧ abc.cps.toList.length = 26 ∧ (∀ c ∈ abc9.cps.toList, c < 0x110000) ∧ 0 < abc9.length ∧ abc9.length ≤ 1000 ∧ (∀ c ∈ bton.cps.toList, c < 0x110000) ∧ bton.cps.toList.length = 13 := by decide +kernel
structure Pool (h : Mh) (b pl n : Nat) (pool : List Str) : Prop where
  B : BagOk h b
  p : h[pl]? = some (.lst (pool.map D.str))
  nd : pool.Nodup
  ok : ∀ s ∈ pool, PyData.strOk s = true
  lo : 9 ≤ pool.length
  hi : pool.length ≤ n
theorem Pool.add {h : Mh} {b pl n : Nat} {pool : List Str} {s : Str} (P : Pool h b pl n pool) (bp : b < pl) (hs : s ∉ pool) (ok : PyData.strOk s = true) : Pool (h.set pl (.lst ((pool ++ [s]).map D.str))) b pl (n + 1) (pool ++ [s]) :=
  ⟨P.B.put bp, set_at (lt_of P.p), List.nodup_append.mpr ⟨P.nd, by simp, fun a ha c hc z => by
    have : c = s := by simpa using hc
    rw [z, this] at ha; exact hs ha⟩, fun t ht => by
    rcases List.mem_append.mp ht with ht | ht
    · exact P.ok t ht
    · rw [List.mem_singleton.mp ht]; exact ok, by have := P.lo; simp; omega, by have := P.hi; simp; omega⟩
theorem er_perm : ∀ (l : List Str) (i : Nat) (h : i < l.length), (l[i] :: l.eraseIdx i).Perm l
  | [], _, h => absurd h (by simp)
  | a :: l, 0, _ => List.Perm.refl _
  | a :: l, i + 1, h => by
    have ih := er_perm l i (by simpa using h)
    exact (List.Perm.swap a _ _).trans (ih.cons a)
theorem in_pool {h : Mh} {pl : Nat} {pool : List Str} {s : Str} (e : h[pl]? = some (.lst (pool.map D.str))) : dIn true (.str s) (.ref pl) h = .ok (.bl (!decide (s ∈ pool))) h := by
  rw [in_lst, e]
  dsimp only
  rw [any_eq, if_pos ⟨rfl, flat_strs⟩]
  rfl
theorem names_ok {h : Mh} {b : Nat} (B : BagOk h b) : (f__law_names [.ref b, .int 7] h).wp fun d h' => (∃ r, ∃ ns : List Str, d = .ref r ∧ h'[r]? = some (.lst (ns.map D.str)) ∧ ns.length = 7 ∧ ns.Nodup ∧ ∀ s ∈ ns, PyData.strOk s = true) ∧ BagOk h' b ∧ Gr b h h' := by
  have bl := B.lt
  unfold f__law_names m__law_names
  rw [w_run]
  refine stepT (fun sg h' => (∃ stem, sg = [some (.ref b), some (.int 7), some (.str stem), none, none, none, none, none] ∧ SOk stem 6) ∧ BagOk h' b ∧ Gr b h h') ?_ fun sg h1 ⟨⟨stem, e, st⟩, B1, G1⟩ => ?_
  · simp [startD, List.replicate]
    refine (of_ok (ds := stems.map D.str) (B.ex Ex.app) at_end (by omega) (by decide) (by decide)).mono fun d h1 ⟨⟨j, e⟩, B1, G1⟩ => ?_
    rw [List.getElem?_map] at e
    obtain ⟨s, es, rfl⟩ := Option.map_eq_some_iff.mp e
    simp
    exact ⟨stems_ok s (List.mem_of_getElem? es), B1, Ex.app.gr.trans G1⟩
  subst e
  refine stepT (fun sg h' => (∃ stem, sg = [some (.ref b), some (.int 7), some (.str stem), none, none, none, none, none] ∧ SOk stem 6) ∧ BagOk h' b ∧ Gr b h h') ?_ fun sg h2 ⟨⟨stem, e, st⟩, B2, G2⟩ => ?_
  · by_cases c : stem = Str.ofString "*"
    · simp [c, isTy]
      refine (draw_ok B1 (size := 6) (by decide) (by decide)).mono fun d h2 ⟨m, e, m0, m1, B2, G2⟩ => ?_
      subst e
      have ir : InR (1 + m) := inR_of (by omega) (by omega)
      simp [ir, wipeD]
      refine (lc_draw (s := srcR 0 (1 + m).toNat) (g := gNm 7) (items := (List.range (1 + m).toNat).map fun k : Nat => D.int (k : Int)) (fun y => ∃ s, y = .str s ∧ SOk s 1) B2 (by simp; omega) (fun j x h' e B' G' => ⟨trivial, _, rfl, ?_⟩) (fun _ _ => trivial)).mono fun d h3 ⟨e, ys, hy, ly, Py, B3, G3⟩ => ?_
      · simp
        refine (ofs_ok (z := abc9) B' abc_ok.2.2.2.1 abc_ok.2.2.2.2.1).mono fun d h4 ⟨⟨c, hc, e⟩, B4, G4⟩ => ⟨⟨_, e, sok_one (abc_ok.2.2.1 c hc) (by decide)⟩, B4, G4⟩
      · subst e
        have ex : ∃ zs : List Str, ys = zs.map D.str ∧ ∀ z ∈ zs, SOk z 1 := by
          clear hy ly
          induction ys with
          | nil => exact ⟨[], rfl, by simp⟩
          | cons y ys ih =>
            obtain ⟨s, rfl, hs⟩ := Py y (by simp)
            obtain ⟨zs, rfl, hz⟩ := ih fun z hz => Py z (by simp [hz])
            exact ⟨s :: zs, rfl, fun z hz' => by
              rcases List.mem_cons.mp hz' with rfl | hz'
              · exact hs
              · exact hz z hz'⟩
        obtain ⟨zs, rfl, hz⟩ := ex
        have lz : zs.length ≤ 6 := by simp at ly; omega
        have jj : dJoin (.str (Str.ofString "")) [.ref h2.length] h3 = .ok (.str (Txt.join (Str.ofString "") zs)) h3 := by
          have so : ∀ l : List Str, strsOf (l.map D.str) = some l := fun l => by
            induction l with
            | nil => rfl
            | cons x l ih => show (strsOf (l.map D.str)).map _ = _; rw [ih]; rfl
          have sm : ∀ l : List Str, (∀ y ∈ l, SOk y 1) → (l.map (·.length)).sum ≤ l.length := fun l => by
            induction l with
            | nil => intro _; simp
            | cons y l ih =>
              intro h
              have a := ih fun z hz => h z (by simp [hz])
              have b := (h y (by simp)).len
              simp
              omega
          have := sm zs hz
          unfold dJoin
          simp only [l_lstOf, hy, so]
          exact if_pos (by rw [show (Str.ofString "").length = 0 by decide +kernel]; omega)
        simp [jj]
        exact ⟨sok_join hz lz, B3, G1.trans (G2.trans G3)⟩
    · simp [c]
      exact ⟨st, B1, G1⟩
  subst e
  have ls : LenE stem.length := lenE (by have := st.len; omega)
  refine stepT (fun sg h' => ∃ cut pl, sg = [some (.ref b), some (.int 7), some (.str stem), some (.int cut), some (.ref pl), none, none, none] ∧ Pool h' b pl 9 pool0 ∧ b < pl ∧ h.length ≤ pl ∧ Gr b h h') ?_ fun sg h3 ⟨cut, pl, e, P3, bp, hp, G3⟩ => ?_
  · simp [ls]
    refine (draw_ok B2 (size := (stem.length : Int) + 1) (by omega) (by have := st.len; omega)).mono fun d h3 ⟨k, e, _, _, B3, G3⟩ => ?_
    subst e
    simp
    have := B3.lt
    have := G2.len
    have := G3.len
    exact ⟨_, _, ⟨rfl, rfl⟩, ⟨B3.ex Ex.app, at_end, pool0_ok.1, pool0_ok.2.1, by decide, by decide⟩, by omega, by omega, G2.trans (G3.trans Ex.app.gr)⟩
  subst e
  refine stepT (fun sg h' => ∃ x5 x6 pool, sg = [some (.ref b), some (.int 7), some (.str stem), some (.int cut), some (.ref pl), x5, x6, none] ∧ Pool h' b pl 40 pool ∧ Gr b h h') ?_ fun sg h4 ⟨x5, x6, pool, e, P4, G4⟩ => ?_
  · rw [w_for, wp_th]
    have la : abc.cps.toList.length = 26 := abc_ok.2.1
    simp
    change RS.wp (forL (srcS abc) _ _ (abc.cps.toList.map fun c => D.str ⟨#[c]⟩) 0 _ h3) _ _
    refine loop (fun j sg h' => ∃ x5 x6 pool, sg = [some (.ref b), some (.int 7), some (.str stem), some (.int cut), some (.ref pl), x5, x6, none] ∧ Pool h' b pl (9 + j) pool ∧ Gr b h h') ⟨none, none, pool0, rfl, P3, G3⟩ (fun j x sg h' e ⟨x5, x6, pool, es, P, G⟩ => ?_) (fun sg h' ⟨x5, x6, pool, es, P, G⟩ => ⟨trivial, x5, x6, pool, es, ⟨P.B, P.p, P.nd, P.ok, P.lo, by have := P.hi; rw [List.length_map, la] at this; omega⟩, G⟩)
    subst es
    have jl : j < 26 := by
      have := (List.getElem?_eq_some_iff.mp e).1
      rw [List.length_map, la] at this; exact this
    rw [List.getElem?_map] at e
    obtain ⟨c, ec, rfl⟩ := Option.map_eq_some_iff.mp e
    refine ⟨trivial, _, rfl, ?_⟩
    have c1 := sok_one (n := 1) (abc_ok.1 c (List.mem_of_getElem? ec)) (by decide)
    have s1 := sok_cut st none (some cut)
    have s2 := sok_cut st (some cut) none
    have so := sok_app (sok_app s1 c1) s2
    have l1 : LenE ((L2.cutS stem none (some cut)).length + (⟨#[c]⟩ : Str).length) := lenE (by have := s1.len; have := c1.len; omega)
    have l2 : LenE ((L2.cutS stem none (some cut) ++ ⟨#[c]⟩).length + (L2.cutS stem (some cut) none).length) := lenE (by have := (sok_app s1 c1).len; have := s2.len; omega)
    simp only [w_seq, wp_ths, List.set_cons_succ, List.set_cons_zero]
    simp [ls, l1, l2]
    generalize L2.cutS stem none (some cut) ++ ⟨#[c]⟩ ++ L2.cutS stem (some cut) none = one at *
    have so' : SOk one 100 := ⟨so.ok, Nat.le_trans so.len (by decide)⟩
    refine (is_name_ok so').mono fun d h5 ⟨⟨b', e⟩, X⟩ => ?_
    subst e
    have P5 : Pool h5 b pl (9 + j) pool := ⟨P.B.ex X, X.get P.p, P.nd, P.ok, P.lo, P.hi⟩
    have G5 := G.trans (X.gr (b := b))
    have up : Pool h5 b pl (9 + (j + 1)) pool := ⟨P5.B, P5.p, P.nd, P.ok, P.lo, by have := P.hi; omega⟩
    have hdin : dIn true (.str one) (.ref pl) h5 = .ok (.bl (!decide (one ∈ pool))) h5 := in_pool P5.p
    cases b'
    · simp
      exact ⟨⟨pool, up⟩, G5⟩
    · by_cases hin : one ∈ pool
      · simp [-in_lst, hdin, hin]
        exact ⟨⟨pool, up⟩, G5⟩
      · have lc : LenC pool.length := lenC (by have := P.hi; omega)
        simp [-in_lst, hdin, P5.p, hin, lc]
        have := P5.add bp hin so'.str
        rw [List.map_append] at this
        exact ⟨⟨_, this⟩, G5.put (.inl hp)⟩
  subst e
  refine stepT (fun sg h' => ∃ x5 x6 pool, sg = [some (.ref b), some (.int 7), some (.str stem), some (.int cut), some (.ref pl), x5, x6, none] ∧ Pool h' b pl 60 pool ∧ Gr b h h') ?_ fun sg h5 ⟨x5, x6, pool, e, P5, G5⟩ => ?_
  · rw [w_for, wp_th]
    have la : bton.cps.toList.length = 13 := abc_ok.2.2.2.2.2.2
    simp
    change RS.wp (forL (srcS bton) _ _ (bton.cps.toList.map fun c => D.str ⟨#[c]⟩) 0 _ h4) _ _
    refine loop (fun j sg h' => ∃ x5 x6 pool, sg = [some (.ref b), some (.int 7), some (.str stem), some (.int cut), some (.ref pl), x5, x6, none] ∧ Pool h' b pl (40 + j) pool ∧ Gr b h h') ⟨x5, x6, pool, rfl, P4, G4⟩ (fun j x sg h' e ⟨x5, x6, pool, es, P, G⟩ => ?_) (fun sg h' ⟨x5, x6, pool, es, P, G⟩ => ⟨trivial, x5, x6, pool, es, ⟨P.B, P.p, P.nd, P.ok, P.lo, by have := P.hi; rw [List.length_map, la] at this; omega⟩, G⟩)
    subst es
    have jl : j < 13 := by
      have := (List.getElem?_eq_some_iff.mp e).1
      rw [List.length_map, la] at this; exact this
    rw [List.getElem?_map] at e
    obtain ⟨c, ec, rfl⟩ := Option.map_eq_some_iff.mp e
    refine ⟨trivial, _, rfl, ?_⟩
    have c1 := sok_one (n := 1) (abc_ok.2.2.2.2.2.1 c (List.mem_of_getElem? ec)) (by decide)
    have up : Pool h' b pl (40 + (j + 1)) pool := ⟨P.B, P.p, P.nd, P.ok, P.lo, by have := P.hi; omega⟩
    have hdin : dIn true (.str ⟨#[c]⟩) (.ref pl) h' = .ok (.bl (!decide ((⟨#[c]⟩ : Str) ∈ pool))) h' := in_pool P.p
    by_cases hin : (⟨#[c]⟩ : Str) ∈ pool
    · simp [-in_lst, hdin, hin]
      exact ⟨⟨pool, up⟩, G⟩
    · have lc : LenC pool.length := lenC (by have := P.hi; omega)
      simp [-in_lst, hdin, P.p, hin, lc]
      have := P.add bp hin c1.str
      rw [List.map_append] at this
      exact ⟨⟨_, this⟩, G.put (.inl hp)⟩
  subst e
  have i7 : InR 7 := inR_of (by decide) (by decide)
  rw [w_ret, wp_th]
  simp [i7, wipeD]
  have key := lc_wp (s := srcR 0 7) (g := gNm 7) (mt := mYes) (me := mMt "list" dPopAt (mVar 4) (mCons (mCall 2 f__law_draw (mCons (mVar 0) (mCons (mBi dLen (mCons (mVar 4) mNil)) mNil)) []) mNil)) (sg := [some (.ref b), some (.int 7), some (.str stem), some (.int cut), some (.ref pl), x5, x6, none]) (n := h5.length)
    (P := fun d h' => (∃ r, ∃ ns : List Str, d = .ref r ∧ h'[r]? = some (.lst (ns.map D.str)) ∧ ns.length = 7 ∧ ns.Nodup ∧ ∀ s ∈ ns, PyData.strOk s = true) ∧ BagOk h' b ∧ Gr b h h')
    (fun j acc h' => ∃ ns pool : List Str, acc = ns.map D.str ∧ ns.length = j ∧ j ≤ 7 ∧ h'[pl]? = some (.lst (pool.map D.str)) ∧ pool.length + j ≥ 9 ∧ pool.length ≤ 60 ∧ (ns ++ pool).Nodup ∧ (∀ s ∈ ns ++ pool, PyData.strOk s = true) ∧ BagOk h' b ∧ Gr b h h')
    (fun j x acc h' e ⟨ns, pool, ea, ln, j7, hpl, lo, hi, nd, ok, B, G⟩ hn => ?_) (fun acc h' ⟨ns, pool, ea, ln, j7, hpl, lo, hi, nd, ok, B, G⟩ hn => ⟨trivial, ⟨h5.length, ns, rfl, by rw [hn, ea], by simpa using ln, (List.nodup_append.mp nd).1, fun s hs => ok s (by simp [hs])⟩, B, G⟩) 7 0 [] (h5 ++ [.lst []]) (by simp) ⟨[], pool, rfl, rfl, by decide, app_get P5.p, by have := P5.lo; omega, P5.hi, by simpa using P5.nd, by simpa using P5.ok, P5.B.ex Ex.app, G5.trans Ex.app.gr⟩ at_end
  · have ei : (srcR 0 7).items = (List.range 7).map fun k : Nat => D.int (k : Int) := by simp
    rw [List.drop_zero, ei] at key
    exact key.mono fun d h' q => by simpa using q
  · have j7' : j < 7 := by
      have := (List.getElem?_eq_some_iff.mp e).1
      simpa using this
    refine ⟨trivial, _, rfl, wp_of (a := true) (h := h') rfl ?_⟩
    rw [if_pos rfl]
    simp [hpl]
    have bpl := lt_of P5.p
    have b5 := P5.B.lt
    have plb : pl ≠ b := by omega
    refine (draw_ok B (size := (pool.length : Int)) (by omega) (by omega)).mono fun d h6 ⟨k, e, k0, k1, B6, G6⟩ => ?_
    subst e
    have kl : k.toNat < pool.length := by omega
    have hp6 := G6.get plb hpl
    have pop : dPopAt (.ref pl) [.int k] h6 = .ok (.str pool[k.toNat]) (h6.set pl (.lst ((pool.eraseIdx k.toNat).map D.str))) := by
      have ix : ixN (pool.map D.str).length k = some k.toNat := by
        unfold ixN; rw [if_pos k0, if_pos (by simpa using k1)]
      have sq := (L2.ixN_seq ix).1
      have em : (pool.map D.str).eraseIdx k.toNat = (pool.eraseIdx k.toNat).map D.str := by
        simp [List.eraseIdx_eq_take_drop_succ, List.map_take, List.map_drop]
      have eg : (pool.map D.str)[k.toNat]? = some (.str pool[k.toNat]) := by simp [List.getElem?_eq_getElem kl]
      unfold dPopAt
      simp only [hp6]
      rw [if_pos ⟨by omega, by omega⟩, sq]
      simp only [eg, em]
    simp [pop]
    have hn6 := G6.get (by omega) hn
    have perm : ((ns ++ [pool[k.toNat]]) ++ pool.eraseIdx k.toNat).Perm (ns ++ pool) := by
      rw [List.append_assoc]
      exact (er_perm pool k.toNat kl).append_left ns
    have le := List.length_eraseIdx_of_lt kl
    have key2 : ∃ ns' pool' : List Str, acc ++ [D.str pool[k.toNat]] = ns'.map D.str ∧ ns'.length = j + 1 ∧ j + 1 ≤ 7 ∧ ((h6.set pl (.lst ((pool.eraseIdx k.toNat).map D.str))).set h5.length (.lst (acc ++ [D.str pool[k.toNat]])))[pl]? = some (.lst (pool'.map D.str)) ∧ pool'.length + (j + 1) ≥ 9 ∧ pool'.length ≤ 60 ∧ (ns' ++ pool').Nodup ∧ (∀ s ∈ ns' ++ pool', PyData.strOk s = true) ∧ BagOk ((h6.set pl (.lst ((pool.eraseIdx k.toNat).map D.str))).set h5.length (.lst (acc ++ [D.str pool[k.toNat]]))) b ∧ Gr b h ((h6.set pl (.lst ((pool.eraseIdx k.toNat).map D.str))).set h5.length (.lst (acc ++ [D.str pool[k.toNat]]))) :=
      ⟨ns ++ [pool[k.toNat]], pool.eraseIdx k.toNat, by rw [ea]; simp, by simp [ln], by omega, by rw [set_off (by omega)]; exact set_at (lt_of hp6), by omega, by omega, perm.nodup_iff.mpr nd, fun s hs => ok s (perm.mem_iff.mp hs), (B6.put bp).put (by omega), ((G.trans G6).put (.inl hp)).put (.inl G5.len)⟩
    refine ⟨by rw [set_off (by omega)]; exact hn6, Nat.lt_of_lt_of_le (by rw [ea]; simp; omega) line_le, ?_⟩
    simpa using key2
end K03

namespace K03
open PySem PySem.Spec PyProof.Rows L2 Mo
theorem mem3 {h : Mh} {b : Nat} {x y z : Int} (B : BagOk h b) : (f__law_of [.ref b, .ref h.length] (h ++ [.lst [.int x, .int y, .int z]])).wp fun d h' => (∃ i : Int, d = .int i ∧ (i = x ∨ i = y ∨ i = z)) ∧ BagOk h' b ∧ Gr b h h' := by
  refine (of_ok (B.ex Ex.app) at_end (by have := B.lt; omega) (by simp) (by simp)).mono fun d h' ⟨⟨j, e⟩, B', G⟩ => ⟨?_, B', Ex.app.gr.trans G⟩
  have := List.mem_of_getElem? e
  simp at this
  rcases this with e | e | e
  · exact ⟨_, e, .inl rfl⟩
  · exact ⟨_, e, .inr (.inl rfl)⟩
  · exact ⟨_, e, .inr (.inr rfl)⟩
theorem law_wp {ns : List Int} (hl : ns.length ≤ 63) : (f_law [.ref 0] [.fls (ns.map D.int)]).wp fun d _ => d = .bl true := by
  unfold f_law m_law
  rw [w_run]
  refine stepT (fun sg h' => ∃ b, sg = [some (.ref 0), some (.ref b), none, none, none, none, none, none, none, none, none, none, none, none, none, none, none, none, none, none, none] ∧ BagOk h' b) ?_ fun sg h1 ⟨b, e, B1⟩ => ?_
  · simp [startD, List.replicate]
    refine (bag_ok (h := [.fls (ns.map D.int)]) (r := 0) rfl hl).mono fun d h1 ⟨b, e, B, X⟩ => ?_
    subst e
    simp
    exact B
  subst e
  refine stepT (fun sg h' => ∃ (w nm : Nat) (n0 n1 n2 n3 n4 n5 n6 : Str), sg = [some (.ref 0), some (.ref b), some (.int (w : Int)), some (.ref nm), none, none, none, none, none, none, none, none, none, none, none, none, none, none, none, none, none] ∧ 1 ≤ w ∧ w ≤ 6 ∧ h'[nm]? = some (.lst ([n0, n1, n2, n3, n4, n5, n6].map D.str)) ∧ [n0, n1, n2, n3, n4, n5, n6].Nodup ∧ (∀ s ∈ [n0, n1, n2, n3, n4, n5, n6], PyData.strOk s = true) ∧ BagOk h' b) ?_ fun sg h2 ⟨w, nm, n0, n1, n2, n3, n4, n5, n6, e, w1, w6, hn, nd, sk, B2⟩ => ?_
  · simp
    refine (of_ok (B1.ex Ex.app) at_end (by have := B1.lt; omega) (by simp) (by simp)).mono fun d h2 ⟨⟨j, e⟩, B2, G2⟩ => ?_
    have : ∃ w : Nat, d = .int (w : Int) ∧ 1 ≤ w ∧ w ≤ 6 := by
      have := List.mem_of_getElem? e
      simp at this
      rcases this with e | e | e | e | e | e
      · exact ⟨2, e, by decide, by decide⟩
      · exact ⟨3, e, by decide, by decide⟩
      · exact ⟨1, e, by decide, by decide⟩
      · exact ⟨4, e, by decide, by decide⟩
      · exact ⟨5, e, by decide, by decide⟩
      · exact ⟨6, e, by decide, by decide⟩
    obtain ⟨w, rfl, w1, w6⟩ := this
    simp
    refine (names_ok B2).mono fun d h3 ⟨⟨r, ns, e, hn, ln, nd, sk⟩, B3, G3⟩ => ?_
    subst e
    match ns, ln with
    | [n0, n1, n2, n3, n4, n5, n6], _ =>
      simp only [wp_ok, wp_bind, w_nil, if_pos (lenE (by decide : 2 ≤ 1000)), List.length_cons, List.length_nil, g_two, wp_nx]
      exact ⟨w, r, n0, n1, n2, n3, n4, n5, n6, rfl, w1, w6, hn, nd, sk, B3⟩
  subst e
  have wl : (w : Int) ≤ 1000000 := by omega
  obtain ⟨p2, p64⟩ := pow_le w1 w6
  have cut2 : Mo.cutD ([n0, n1, n2, n3, n4, n5, n6].map D.str) none (some 2) = [n0, n1].map D.str := rfl
  refine stepT (fun sg h' => ∃ (sm lt : Nat), sg = [some (.ref 0), some (.ref b), some (.int (w : Int)), some (.ref nm), some (.ref sm), some (.int (2 ^ w)), some (.ref lt), none, none, none, none, none, none, none, none, none, none, none, none, none, none] ∧ h'[nm]? = some (.lst ([n0, n1, n2, n3, n4, n5, n6].map D.str)) ∧ h'[sm]? = some (.lst ([n0, n1].map D.str)) ∧ h'[lt]? = some (.lst []) ∧ BagOk h' b ∧ sm < lt ∧ nm < lt ∧ b < lt) ?_ fun sg h3 ⟨sm, lt, e, hn3, hs3, hl3, B3, o1, o2, o3⟩ => ?_
  · have cut2' := cut2
    simp only [List.map_cons, List.map_nil] at cut2' hn
    simp [hn, cut2', wl]
    have := B2.lt
    have := lt_of hn
    exact ⟨_, _, ⟨rfl, rfl⟩, app_get hn, by simp, by simp, B2.ex Ex.app, by omega, by omega, by omega⟩
  subst e
  refine stepT (fun sg h' => ∃ (lots : List (Str × Int)) (x7 : Option D), sg = [some (.ref 0), some (.ref b), some (.int (w : Int)), some (.ref nm), some (.ref sm), some (.int (2 ^ w)), some (.ref lt), x7, none, none, none, none, none, none, none, none, none, none, none, none, none] ∧ h'[nm]? = some (.lst ([n0, n1, n2, n3, n4, n5, n6].map D.str)) ∧ h'[sm]? = some (.lst ([n0, n1].map D.str)) ∧ lots.length ≤ 2 ∧ h'[lt]? = some (.lst (lots.map tupD)) ∧ lots.map (·.1) = [n2, n3].take lots.length ∧ (∀ p ∈ lots, p.2 = 2 ∨ p.2 = 4 ∨ p.2 = 8) ∧ BagOk h' b) ?_ fun sg h4 ⟨lots, x7, e, hn4, hs4, l2, hl4, ef, ez, B4⟩ => ?_
  · rw [w_for, wp_th]
    simp
    refine (draw_ok B3 (size := 3) (by decide) (by decide)).mono fun d h4 ⟨m, e, m0, m1, B4, G4⟩ => ?_
    subst e
    have ir : InR m := inR_of (by omega) (by omega)
    simp [ir]
    refine loop (fun j sg h' => ∃ (lots : List (Str × Int)) (x7 : Option D), sg = [some (.ref 0), some (.ref b), some (.int (w : Int)), some (.ref nm), some (.ref sm), some (.int (2 ^ w)), some (.ref lt), x7, none, none, none, none, none, none, none, none, none, none, none, none, none] ∧ h'[nm]? = some (.lst ([n0, n1, n2, n3, n4, n5, n6].map D.str)) ∧ h'[sm]? = some (.lst ([n0, n1].map D.str)) ∧ lots.length = j ∧ h'[lt]? = some (.lst (lots.map tupD)) ∧ lots.map (·.1) = [n2, n3].take lots.length ∧ (∀ p ∈ lots, p.2 = 2 ∨ p.2 = 4 ∨ p.2 = 8) ∧ BagOk h' b) ⟨[], none, rfl, G4.get (B3.map_ne hn3 (fun _ _ z => by cases z)) hn3, G4.get (B3.map_ne hs3 (fun _ _ z => by cases z)) hs3, rfl, G4.get (by omega) hl3, rfl, by simp, B4⟩ (fun j x sg h' e ⟨lots, x7, es, hn5, hs5, ll, hl5, ef, ez, B5⟩ => ?_) (fun sg h' ⟨lots, x7, es, hn5, hs5, ll, hl5, ef, ez, B5⟩ => ⟨trivial, lots, x7, es, hn5, hs5, by simp at ll; omega, hl5, ef, ez, B5⟩)
    subst es
    have jl : j < m.toNat := by simpa using (List.getElem?_eq_some_iff.mp e).1
    have ex : x = .int (j : Int) := by
      simp [List.getElem?_range jl] at e
      exact e.symm
    subst ex
    refine ⟨trivial, _, rfl, ?_⟩
    have nj : ∃ s, atI ([n0, n1, n2, n3, n4, n5, n6].map D.str) (2 + (j : Int)) = some (.str s) ∧ lots.map (·.1) ++ [s] = [n2, n3].take (j + 1) := by
      have : j = 0 ∨ j = 1 := by omega
      rcases this with rfl | rfl
      · exact ⟨n2, rfl, by rw [ef, ll]; rfl⟩
      · exact ⟨n3, rfl, by rw [ef, ll]; rfl⟩
    obtain ⟨s, nj, nk⟩ := nj
    simp only [List.map_cons, List.map_nil] at nj hn5
    simp [hn5, hl5, nj]
    refine (mem3 B5).mono fun d h6 ⟨⟨i, e, hi⟩, B6, G6⟩ => ?_
    subst e
    have hl6 := G6.get (by omega) hl5
    have lc : LenC lots.length := lenC (by omega)
    have lo := lt_of hl6
    have key : ∃ (lots' : List (Str × Int)) (x7 : Option D), [some (.ref 0), some (.ref b), some (.int (w : Int)), some (.ref nm), some (.ref sm), some (.int (2 ^ w)), some (.ref lt), some (.int (j : Int)), none, none, none, none, none, none, none, none, none, none, none, none, none] = [some (.ref 0), some (.ref b), some (.int (w : Int)), some (.ref nm), some (.ref sm), some (.int (2 ^ w)), some (.ref lt), x7, none, none, none, none, none, none, none, none, none, none, none, none, none] ∧ (h6.set lt (.lst (lots.map tupD ++ [.tup [.str s, .int i]])))[nm]? = some (.lst ([n0, n1, n2, n3, n4, n5, n6].map D.str)) ∧ (h6.set lt (.lst (lots.map tupD ++ [.tup [.str s, .int i]])))[sm]? = some (.lst ([n0, n1].map D.str)) ∧ lots'.length = j + 1 ∧ (h6.set lt (.lst (lots.map tupD ++ [.tup [.str s, .int i]])))[lt]? = some (.lst (lots'.map tupD)) ∧ lots'.map (·.1) = [n2, n3].take lots'.length ∧ (∀ p ∈ lots', p.2 = 2 ∨ p.2 = 4 ∨ p.2 = 8) ∧ BagOk (h6.set lt (.lst (lots.map tupD ++ [.tup [.str s, .int i]]))) b := by
      refine ⟨lots ++ [(s, i)], _, rfl, ?_, ?_, by simp [ll], ?_, by simp only [List.map_append, List.length_append, List.map_cons, List.map_nil, List.length_cons, List.length_nil, ll]; exact nk, ?_, B6.put (by omega)⟩
      · rw [set_off (by omega)]; exact G6.get (B5.map_ne (l := [n0, n1, n2, n3, n4, n5, n6]) (f := D.str) hn5 (fun _ _ z => by cases z)) hn5
      · rw [set_off (by omega)]; exact G6.get (B5.map_ne hs5 (fun _ _ z => by cases z)) hs5
      · rw [set_at lo]; simp [tupD]
      · intro p hp
        rcases List.mem_append.mp hp with hp | hp
        · exact ez _ hp
        · rw [List.mem_singleton.mp hp]; exact hi
    simpa [hl6, lc] using key
  subst e
  have C4 : Cxt h4 b sm lt [n0, n1] lots := ⟨B4, hs4, B4.map_ne hs4 (fun _ _ z => by cases z), rfl, hl4, B4.map_ne hl4 (fun _ _ z => by cases z), l2, fun s hs => sk s (by simp at hs; rcases hs with rfl | rfl <;> simp), fun p hp => by
    have : p.1 ∈ lots.map (·.1) := List.mem_map_of_mem hp
    rw [ef] at this
    have := List.mem_of_mem_take this
    exact sk p.1 (by simp at this; rcases this with e | e <;> simp [e])⟩
  have nmb := B4.map_ne hn4 (fun _ _ z => by cases z)
  refine stepT (fun sg h' => ∃ far : Int, sg = [some (.ref 0), some (.ref b), some (.int (w : Int)), some (.ref nm), some (.ref sm), some (.int (2 ^ w)), some (.ref lt), x7, some (.int far), none, none, none, none, none, none, none, none, none, none, none, none] ∧ 0 < far ∧ far ≤ 1000000000 ∧ Cxt h' b sm lt [n0, n1] lots ∧ h'[nm]? = some (.lst ([n0, n1, n2, n3, n4, n5, n6].map D.str))) ?_ fun sg h5 ⟨far, e, f0, f1, C5, hn5⟩ => ?_
  · have pc : PowC 10 9 := powC (by decide) (by decide) (by decide)
    simp [pc]
    have X : Ex h4 (h4 ++ [.lst [.int (2 ^ w), .int (2 ^ w), .int (2 ^ w), .int (4 * 2 ^ w + 3), .int 1000000000]]) := Ex.app
    refine (of_ok (B4.ex X) at_end (by have := B4.lt; omega) (by simp) (by simp)).mono fun d h5 ⟨⟨j, e⟩, B5, G5⟩ => ?_
    have : ∃ far : Int, d = .int far ∧ 0 < far ∧ far ≤ 1000000000 := by
      have := List.mem_of_getElem? e
      simp at this
      rcases this with e | e | e
      · exact ⟨_, e, by omega, by omega⟩
      · exact ⟨_, e, by omega, by omega⟩
      · exact ⟨_, e, by decide, by decide⟩
    obtain ⟨far, rfl, f0, f1⟩ := this
    simp
    have G := X.gr.trans G5
    exact ⟨f0, f1, C4.gr G B5, G.get nmb hn4⟩
  subst e
  refine stepT (fun sg h' => ∃ (kn pr : Nat) (ts : List T) (ps : List (Int × Int)), sg = [some (.ref 0), some (.ref b), some (.int (w : Int)), some (.ref nm), some (.ref sm), some (.int (2 ^ w)), some (.ref lt), x7, some (.int far), some (.ref kn), some (.ref pr), none, none, none, none, none, none, none, none, none, none] ∧ Cxt h' b sm lt [n0, n1] lots ∧ h'[nm]? = some (.lst ([n0, n1, n2, n3, n4, n5, n6].map D.str)) ∧ h'[kn]? = some (.lst (ts.map T.d)) ∧ h'[pr]? = some (.lst (ps.map pairD)) ∧ 2 ≤ ts.length ∧ ts.length ≤ 10 ∧ (∀ t ∈ ts, t.dep ≤ 40 ∧ t.ok [n0, n1] (rsOf lots)) ∧ 1 ≤ ps.length ∧ ps.length ≤ 100) ?_ fun sg h6 ⟨kn, pr, ts, ps, e, C6, hn6, hk6, hp6, lt2, lt10, okt, lp1, lp100⟩ => ?_
  · simp
    refine (knots_ok C5 f0 f1).mono fun d h6 ⟨⟨r, ts, e, hr, rb, t2, t10, ok⟩, B6, G6⟩ => ?_
    subst e
    simp
    refine (pairs_ok B6 w1 w6).mono fun d h7 ⟨⟨r2, ps, e, hr2, rb2, p1, p100⟩, B7, G7⟩ => ?_
    subst e
    have key : ∃ (ts : List T) (ps : List (Int × Int)), Cxt h7 b sm lt [n0, n1] lots ∧ h7[nm]? = some (.lst ([n0, n1, n2, n3, n4, n5, n6].map D.str)) ∧ h7[r]? = some (.lst (ts.map T.d)) ∧ h7[r2]? = some (.lst (ps.map pairD)) ∧ 2 ≤ ts.length ∧ ts.length ≤ 10 ∧ (∀ t ∈ ts, t.dep ≤ 40 ∧ t.ok [n0, n1] (rsOf lots)) ∧ 1 ≤ ps.length ∧ ps.length ≤ 100 := ⟨ts, ps, (C5.gr G6 B6).gr G7 B7, G7.get nmb (G6.get nmb hn5), G7.get rb hr, hr2, t2, t10, ok, p1, p100⟩
    simp
    exact ⟨r, r2, ⟨rfl, rfl⟩, by simpa using key⟩
  subst e
  refine stepT (fun sg h' => ∃ (pr : Nat) (ps : List (Int × Int)), sg = [some (.ref 0), some (.ref b), some (.int (w : Int)), some (.ref nm), some (.ref sm), some (.int (2 ^ w)), some (.ref lt), x7, some (.int far), some (.ref kn), some (.ref pr), none, none, none, none, none, none, none, none, none, none] ∧ Cxt h' b sm lt [n0, n1] lots ∧ h'[nm]? = some (.lst ([n0, n1, n2, n3, n4, n5, n6].map D.str)) ∧ h'[kn]? = some (.lst (ts.map T.d)) ∧ h'[pr]? = some (.lst (ps.map pairD)) ∧ 1 ≤ ps.length ∧ ps.length ≤ 100) ?_ fun sg h7 ⟨pr', ps', e, C7, hn7, hk7, hp7, lp1', lp100'⟩ => ?_
  · have key : ∃ ps : List (Int × Int), Cxt h6 b sm lt [n0, n1] lots ∧ h6[nm]? = some (.lst ([n0, n1, n2, n3, n4, n5, n6].map D.str)) ∧ h6[kn]? = some (.lst (ts.map T.d)) ∧ h6[pr]? = some (.lst (ps.map pairD)) ∧ 1 ≤ ps.length ∧ ps.length ≤ 100 := ⟨ps, C6, hn6, hk6, hp6, lp1, lp100⟩
    by_cases c : 2 ^ w < far
    · rw [w_if, wp_th]
      refine R.wp.mono (P := fun b h' => b = true ∧ h' = h6) (z := ⟨⟩) (by simp [c]) fun b' h' e => ?_
      obtain ⟨rfl, rfl⟩ := e
      rw [if_pos rfl, w_set, wp_th, w_lc, wp_bind, w_iter, wp_bind, w_sl, wp_bind, w_var]
      have c12 : Mo.cutD (ps.map pairD) none (some 12) = (ps.take 12).map pairD := cut8 (k := 12)
      simp only [wp_ok, wp_bind, w_noP, w_part, w_lit, l_sl, hp6, List.getElem?_cons_succ, List.getElem?_cons_zero, c12]
      rw [l_iter, at_end]
      simp only [wp_ok, srcL_items]
      have X : Ex h' (h' ++ [.lst ((ps.take 12).map pairD)]) := Ex.app
      have en : (h' ++ [.lst ((ps.take 12).map pairD)])[h'.length]? = some (.lst ((ps.take 12).map pairD)) := at_end
      have Cx := C6.ex X
      have hM : ∀ k : Int, MulC (2 ^ w) k := fun k => mulC_l (by omega) (by omega)
      have rb := Cx.B.map_ne en (fun _ _ z => by cases z)
      generalize h' ++ [.lst ((ps.take 12).map pairD)] = h8 at *
      refine (lc_draw (fun y => ∃ i j : Int, y = .tup [.int i, .int j]) Cx.B (by simp; omega) (fun j x h'' e B' G' => ?_) (fun h'' G' => srcL_fin (G'.get rb en))).mono fun d h9 ⟨e, ys, hy, ly, Py, B9, G9⟩ => ?_
      · have e' := e
        rw [List.getElem?_map] at e'
        obtain ⟨p, _, rfl⟩ := Option.map_eq_some_iff.mp e'
        refine ⟨srcL_at (G'.get rb en) e, _, rfl, ?_⟩
        simp [wipeD]
        refine (draw_ok B' f0 (by omega)).mono fun d h9 ⟨k, e, _, _, B9, G9⟩ => ?_
        subst e
        simp
        refine (draw_ok B9 (size := 3) (by decide) (by decide)).mono fun d h10 ⟨k2, e, _, _, B10, G10⟩ => ?_
        subst e
        simp [hM]
        exact ⟨B10, G9.trans G10⟩
      · obtain ⟨qs, rfl⟩ := pairs_of Py
        subst e
        have key2 : ∃ ps : List (Int × Int), Cxt h9 b sm lt [n0, n1] lots ∧ h9[nm]? = some (.lst ([n0, n1, n2, n3, n4, n5, n6].map D.str)) ∧ h9[kn]? = some (.lst (ts.map T.d)) ∧ h9[h8.length]? = some (.lst (ps.map pairD)) ∧ 1 ≤ ps.length ∧ ps.length ≤ 100 := by
          simp at ly
          exact ⟨qs, Cx.gr G9 B9, G9.get nmb (X.get hn6), G9.get (Cx.B.map_ne (X.get hk6) T.d_ne) (X.get hk6), hy, by omega, by omega⟩
        simpa using key2
    · simpa [c] using key
  subst e
  have nn : n0 ≠ n1 ∧ n0 ≠ n5 ∧ n1 ≠ n5 ∧ n2 ≠ n3 ∧ n2 ≠ n6 ∧ n3 ≠ n6 := by simp at nd; simp [nd]
  refine stepT (fun sg h' => ∃ tb, sg = [some (.ref 0), some (.ref b), some (.int (w : Int)), some (.ref nm), some (.ref sm), some (.int (2 ^ w)), some (.ref lt), x7, some (.int far), some (.ref kn), some (.ref pr'), some (.ref tb), none, none, none, none, none, none, none, none, none] ∧ tb = h7.length ∧ h' = h7 ++ [.dk []]) (by simp) fun sg h8 ⟨tb, e, etb, eh⟩ => ?_
  subst e eh
  refine stepT (fun sg h' => ∃ x7 x12 Rw, sg = [some (.ref 0), some (.ref b), some (.int (w : Int)), some (.ref nm), some (.ref sm), some (.int (2 ^ w)), some (.ref lt), x7, some (.int far), some (.ref kn), some (.ref pr'), some (.ref tb), x12, none, none, none, none, none, none, none, none] ∧ Big h' b nm tb sm kn pr' [n0, n1, n2, n3, n4, n5, n6] (rsOf lots) Rw n0 n1 ts ps') ?_ fun sg h9 ⟨y7, x12, Rw, e, E9⟩ => ?_
  · rw [w_for, wp_th]
    have smt := lt_of C7.s
    have ltt := lt_of C7.l
    have bt := C7.B.lt
    have X8 : Ex h7 (h7 ++ [.dk []]) := Ex.app
    have ht : (h7 ++ [MO.dk []])[tb]? = some (.dk []) := by rw [etb]; exact at_end
    have C8 := C7.ex X8
    have e1 := X8.get hn7
    have e2 := X8.get hk7
    have e3 := X8.get hp7
    generalize h7 ++ [MO.dk []] = h8 at *
    simp [C8.l]
    refine loop (fun j sg h' => ∃ (x7 x12 : Option D) (kvs : List (Key × D)), sg = [some (.ref 0), some (.ref b), some (.int (w : Int)), some (.ref nm), some (.ref sm), some (.int (2 ^ w)), some (.ref lt), x7, some (.int far), some (.ref kn), some (.ref pr'), some (.ref tb), x12, none, none, none, none, none, none, none, none] ∧ Cxt h' b sm lt [n0, n1] lots ∧ h'[nm]? = some (.lst ([n0, n1, n2, n3, n4, n5, n6].map D.str)) ∧ h'[kn]? = some (.lst (ts.map T.d)) ∧ h'[pr']? = some (.lst (ps'.map pairD)) ∧ h'[tb]? = some (.dk kvs) ∧ kvs.map (·.1) = ((rsOf lots).take j).map Sum.inr ∧ ∀ r ∈ (rsOf lots).take j, ∃ q, ∃ xs : List Int, valD kvs (.inr r) = some (.ref q) ∧ h'[q]? = some (.lst (xs.map D.int)) ∧ 2 ≤ xs.length ∧ xs.length ≤ 100) ⟨x7, none, [], rfl, C8, e1, e2, e3, ht, by simp, by simp⟩ (fun j x sg h' e ⟨y7, y12, kvs, es, Cj, g1, g2, g3, g4, ek, ev⟩ => ?_) (fun sg h' ⟨y7, y12, kvs, es, Cj, g1, g2, g3, g4, ek, ev⟩ => ?_)
    · subst es
      have e' := e
      rw [List.getElem?_map] at e'
      obtain ⟨p, ep, rfl⟩ := Option.map_eq_some_iff.mp e'
      refine ⟨srcL_at Cj.l e, _, rfl, ?_⟩
      have pz := ez p (List.mem_of_getElem? ep)
      have ir : InR p.2 := inR_of (by omega) (by omega)
      rw [w_put, wp_th]
      simp [tupD, atI, ixN, ir, wipeD]
      refine (lc_draw (s := srcR 0 p.2.toNat) (g := gNm 7) (items := (List.range p.2.toNat).map fun k : Nat => D.int (k : Int)) (fun y => ∃ i : Int, y = .int i) Cj.B (by simp; omega) (fun j x h'' e B' G' => ⟨trivial, _, rfl, ?_⟩) (fun _ _ => trivial)).mono fun d h9 ⟨e, ys, hy, ly, Py, B9, G9⟩ => ?_
      · simp
        refine (draw_ok B' f0 (by omega)).mono fun d h10 ⟨k, e, _, _, B10, G10⟩ => ⟨⟨k, e⟩, B10, G10⟩
      · obtain ⟨xs, rfl⟩ := ints_of Py
        subst e
        have g9 := G9.get (Cj.B.dk_ne g4) g4
        have t9 := lt_of g9
        have keep : ∀ {q : Nat} {l : List D} {o : MO}, h9[q]? = some (.lst l) → (h9.set tb o)[q]? = some (.lst l) := fun {q l o} e => by
          rw [set_off]; exact e
          rintro rfl
          rw [g9] at e; cases e
        have jl : j < (rsOf lots).length := by simpa using (List.getElem?_eq_some_iff.mp ep).1
        have er : (rsOf lots)[j]? = some p.1 := by rw [List.getElem?_map, ep]; rfl
        have rnd : (rsOf lots).Nodup := by
          rw [show rsOf lots = [n2, n3].take lots.length from ef]
          exact List.Nodup.sublist (List.take_sublist _ _) (by simp [nn])
        have tk : (rsOf lots).take (j + 1) = (rsOf lots).take j ++ [p.1] := by rw [List.take_add_one, er]; rfl
        have snot : p.1 ∉ (rsOf lots).take j := by
          have := rnd.sublist (List.take_sublist (j + 1) _)
          rw [tk, List.nodup_append] at this
          intro z
          exact this.2.2 _ z _ (by simp) rfl
        have kno : ∀ q ∈ kvs, q.1 ≠ Sum.inr p.1 := fun q hq z => by
          have : q.1 ∈ kvs.map (·.1) := List.mem_map_of_mem hq
          rw [ek, z] at this
          obtain ⟨s', h1, h2⟩ := List.mem_map.mp this
          cases h2
          exact snot h1
        have lk : kvs.length ≤ 10 := by
          have := congrArg List.length ek
          have := Cj.l2
          simp at *; omega
        have lc : LenC kvs.length := lenC (by omega)
        have pn := putD_new (v := D.ref h'.length) kno
        have lxs : xs.length = p.2.toNat := by simpa using ly
        have C9 := (Cj.gr G9 B9).put (n := tb) (o := .dk (kvs ++ [(.inr p.1, .ref h'.length)])) (by omega) (by omega) (by omega)
        have nb1 := Cj.B.map_ne g1 (fun _ _ z => by cases z)
        have nb2 := Cj.B.map_ne g2 T.d_ne
        have nb3 := Cj.B.map_ne g3 (fun _ _ z => by cases z)
        have fin : ∀ r ∈ (rsOf lots).take (j + 1), ∃ q, ∃ xs : List Int, valD (kvs ++ [(.inr p.1, .ref h'.length)]) (.inr r) = some (.ref q) ∧ (h9.set tb (.dk (kvs ++ [(.inr p.1, .ref h'.length)])))[q]? = some (.lst (xs.map D.int)) ∧ 2 ≤ xs.length ∧ xs.length ≤ 100 := fun r hr => by
          rw [tk] at hr
          rcases List.mem_append.mp hr with hr | hr
          · obtain ⟨q, xs, v1, v2, v3⟩ := ev r hr
            exact ⟨q, xs, valD_app_l v1, keep (G9.get (Cj.B.map_ne v2 (fun _ _ z => by cases z)) v2), v3⟩
          · rw [List.mem_singleton.mp hr]
            exact ⟨h'.length, xs, by rw [valD_app_r kno]; simp [valD], keep hy, by omega, by omega⟩
        have key : ∃ kvs' : List (Key × D), Cxt (h9.set tb (.dk (kvs ++ [(.inr p.1, .ref h'.length)]))) b sm lt [n0, n1] lots ∧ (h9.set tb (.dk (kvs ++ [(.inr p.1, .ref h'.length)])))[nm]? = some (.lst ([n0, n1, n2, n3, n4, n5, n6].map D.str)) ∧ (h9.set tb (.dk (kvs ++ [(.inr p.1, .ref h'.length)])))[kn]? = some (.lst (ts.map T.d)) ∧ (h9.set tb (.dk (kvs ++ [(.inr p.1, .ref h'.length)])))[pr']? = some (.lst (ps'.map pairD)) ∧ (h9.set tb (.dk (kvs ++ [(.inr p.1, .ref h'.length)])))[tb]? = some (.dk kvs') ∧ kvs'.map (·.1) = ((rsOf lots).take (j + 1)).map Sum.inr ∧ ∀ r ∈ (rsOf lots).take (j + 1), ∃ q, ∃ xs : List Int, valD kvs' (.inr r) = some (.ref q) ∧ (h9.set tb (.dk (kvs ++ [(.inr p.1, .ref h'.length)])))[q]? = some (.lst (xs.map D.int)) ∧ 2 ≤ xs.length ∧ xs.length ≤ 100 :=
          ⟨_, C9, keep (G9.get nb1 g1), keep (G9.get nb2 g2), keep (G9.get nb3 g3), set_at t9, by rw [tk, List.map_append, List.map_append, ek]; rfl, fin⟩
        simpa [atI_0, g9, lc, pn] using key
    · subst es
      refine ⟨srcL_fin Cj.l, ?_⟩
      rw [List.length_map] at ek ev
      have tl : (rsOf lots).take lots.length = rsOf lots := List.take_of_length_le (by simp)
      rw [tl] at ek ev
      have ch : ∃ Rw : Str → List Int, ∀ r ∈ rsOf lots, ∃ q, valD kvs (.inr r) = some (.ref q) ∧ h'[q]? = some (.lst ((Rw r).map D.int)) ∧ 2 ≤ (Rw r).length ∧ (Rw r).length ≤ 100 := by
        classical
        refine ⟨fun r => if hr : r ∈ rsOf lots then (ev r hr).choose_spec.choose else [], fun r hr => ?_⟩
        simp only [dif_pos hr]
        exact ⟨(ev r hr).choose, (ev r hr).choose_spec.choose_spec⟩
      obtain ⟨Rw, hR⟩ := ch
      have rnd : (rsOf lots).Nodup := by
        rw [show rsOf lots = [n2, n3].take lots.length from ef]
        exact List.Nodup.sublist (List.take_sublist _ _) (by simp [nn])
      have n6x : n6 ∉ rsOf lots := by
        rw [show rsOf lots = [n2, n3].take lots.length from ef]
        intro z
        have := List.mem_of_mem_take z
        simp at this
        rcases this with e | e
        · exact nn.2.2.2.2.1 e.symm
        · exact nn.2.2.2.2.2 e.symm
      have kk : ∀ (kvs : List (Key × D)) (ks : List Str), kvs.map (·.1) = ks.map Sum.inr → keysS kvs = some ks := fun kvs => by
        induction kvs with
        | nil => intro ks e; cases ks with
          | nil => rfl
          | cons _ _ => simp at e
        | cons p kvs ih => intro ks e; cases ks with
          | nil => simp at e
          | cons k ks =>
            obtain ⟨k', v⟩ := p
            simp at e
            obtain ⟨rfl, e⟩ := e
            show (keysS kvs).map _ = _
            rw [ih ks (by simpa using e)]; rfl
      exact ⟨y7, y12, Rw, rfl, Cj.B, ⟨g1, ⟨kvs, g4, kk _ _ ek, hR⟩, rnd, by have := Cj.l2; simp; omega, nn.1, ⟨n5, rfl, nn.2.1.symm, nn.2.2.1.symm⟩, ⟨n6, rfl, n6x⟩⟩, Cj.s, g2, g3⟩
  subst e
  refine stepT (fun sg h' => (∃ x7 x12 x13 x14 x15 x16 x17 x18 x19 x20, sg = sgL b nm tb sm kn pr' lt w (2 ^ w) far x7 x12 x13 x14 x15 x16 x17 x18 x19 x20) ∧ BagOk h' b) ?_ fun sg h10 ⟨⟨_, _, _, _, _, _, _, _, _, _, e⟩, B10⟩ => ?_
  · rw [w_for, wp_th]
    simp [E9.k]
    refine loop (fun j sg h' => (∃ x7 x12 x13 x14 x15 x16 x17 x18 x19 x20, sg = sgL b nm tb sm kn pr' lt w (2 ^ w) far x7 x12 x13 x14 x15 x16 x17 x18 x19 x20) ∧ Big h' b nm tb sm kn pr' [n0, n1, n2, n3, n4, n5, n6] (rsOf lots) Rw n0 n1 ts ps') ⟨⟨_, _, _, _, _, _, _, _, _, _, rfl⟩, E9⟩ (fun j x sg h' e ⟨⟨x7, x12, x13, x14, x15, x16, x17, x18, x19, x20, es⟩, Ej⟩ => ?_) (fun sg h' ⟨es, Ej⟩ => ⟨srcL_fin Ej.k, es, Ej.B⟩)
    subst es
    have e' := e
    rw [List.getElem?_map] at e'
    obtain ⟨t, et, rfl⟩ := Option.map_eq_some_iff.mp e'
    refine ⟨srcL_at Ej.k e, _, rfl, ?_⟩
    refine (out_ok (t := t) Ej w1 w6 (List.mem_of_getElem? et) okt lt2 lp1' lp100' C4.ok1 (fun s hs => ?_)).mono (fun sg h'' ⟨x7, x12, x14, x15, x16, x17, x18, x19, x20, es, Ek⟩ => ⟨⟨x7, x12, some t.d, x14, x15, x16, x17, x18, x19, x20, es⟩, Ek⟩) (fun _ _ z => z)
    obtain ⟨p, hp, rfl⟩ := List.mem_map.mp hs
    exact C4.ok2 p hp
  subst e
  simp
  refine (any_ok B10).mono fun d h11 e => ?_
  simpa using e
theorem law_true : ∀ ns : List Int, ns.length ≤ 63 → ∃ h', f_law [.ref 0] [.fls (ns.map D.int)] = .ok (.bl true) h' := fun ns hl => by
  obtain ⟨d, h', e, rfl⟩ := (law_wp hl).out
  exact ⟨h', e⟩
end K03

namespace K03
open PySem PySem.Spec PyProof.Rows L2 Mo
theorem all_mk {l : PySem.W.OpenLaw} {w : World} {K : PySem.W.Frag} {h : Heap} {mg : Str → Option Value} {fa : Addr} (X : K.In h) (G : h.Ns mainGlobals mg) (hfa : mg "law" = some (.ref fa)) (ht : ∀ ns : List Int, ns.length ≤ 63 → ∃ h', f_law [.ref 0] [.fls (ns.map D.int)] = .ok (.bl true) h')
    {f0 : Addr} {od0 an0 : Option Addr} {sl0 : Array (Option Value)} {oc0 kV0 dc0 pm0 cd0 ct0 : Value}
    (a0 : PySem.W.nsIn K mainGlobals "_law_draw" = some (some (.ref f0))) (l0 : K.lookup f0 = some ⟨oc0, od0, .func (PySem.W.fnOf "_law_draw" "_law_draw" (defArgs s__law_draw) (defBody s__law_draw) (defScope s__law_draw) .none kV0 dc0 pm0 an0 cd0 ct0), sl0⟩) (c0 : PySem.W.codeIn K cd0 "_law_draw" = true) (k0 : PySem.W.keepIn K (.ref f0) = true)
    {f1 : Addr} {od1 an1 : Option Addr} {sl1 : Array (Option Value)} {oc1 kV1 dc1 pm1 cd1 ct1 : Value}
    (a1 : PySem.W.nsIn K mainGlobals "_law_like" = some (some (.ref f1))) (l1 : K.lookup f1 = some ⟨oc1, od1, .func (PySem.W.fnOf "_law_like" "_law_like" (defArgs s__law_like) (defBody s__law_like) (defScope s__law_like) .none kV1 dc1 pm1 an1 cd1 ct1), sl1⟩) (c1 : PySem.W.codeIn K cd1 "_law_like" = true) (k1 : PySem.W.keepIn K (.ref f1) = true)
    {f2 : Addr} {od2 an2 : Option Addr} {sl2 : Array (Option Value)} {oc2 kV2 dc2 pm2 cd2 ct2 : Value}
    (a2 : PySem.W.nsIn K mainGlobals "prefix_worth" = some (some (.ref f2))) (l2 : K.lookup f2 = some ⟨oc2, od2, .func (PySem.W.fnOf "prefix_worth" "prefix_worth" (defArgs s_prefix_worth) (defBody s_prefix_worth) (defScope s_prefix_worth) .none kV2 dc2 pm2 an2 cd2 ct2), sl2⟩) (c2 : PySem.W.codeIn K cd2 "prefix_worth" = true) (k2 : PySem.W.keepIn K (.ref f2) = true)
    {f3 : Addr} {od3 an3 : Option Addr} {sl3 : Array (Option Value)} {oc3 kV3 dc3 pm3 cd3 ct3 : Value}
    (a3 : PySem.W.nsIn K mainGlobals "sign_worth" = some (some (.ref f3))) (l3 : K.lookup f3 = some ⟨oc3, od3, .func (PySem.W.fnOf "sign_worth" "sign_worth" (defArgs s_sign_worth) (defBody s_sign_worth) (defScope s_sign_worth) .none kV3 dc3 pm3 an3 cd3 ct3), sl3⟩) (c3 : PySem.W.codeIn K cd3 "sign_worth" = true) (k3 : PySem.W.keepIn K (.ref f3) = true)
    {f4 : Addr} {od4 an4 : Option Addr} {sl4 : Array (Option Value)} {oc4 kV4 dc4 pm4 cd4 ct4 : Value}
    (a4 : PySem.W.nsIn K mainGlobals "worth" = some (some (.ref f4))) (l4 : K.lookup f4 = some ⟨oc4, od4, .func (PySem.W.fnOf "worth" "worth" (defArgs s_worth) (defBody s_worth) (defScope s_worth) .none kV4 dc4 pm4 an4 cd4 ct4), sl4⟩) (c4 : PySem.W.codeIn K cd4 "worth" = true) (k4 : PySem.W.keepIn K (.ref f4) = true)
    {f5 : Addr} {od5 an5 : Option Addr} {sl5 : Array (Option Value)} {oc5 kV5 dc5 pm5 cd5 ct5 : Value}
    (a5 : PySem.W.nsIn K mainGlobals "_law_any_lengths_so" = some (some (.ref f5))) (l5 : K.lookup f5 = some ⟨oc5, od5, .func (PySem.W.fnOf "_law_any_lengths_so" "_law_any_lengths_so" (defArgs s__law_any_lengths_so) (defBody s__law_any_lengths_so) (defScope s__law_any_lengths_so) .none kV5 dc5 pm5 an5 cd5 ct5), sl5⟩) (c5 : PySem.W.codeIn K cd5 "_law_any_lengths_so" = true) (k5 : PySem.W.keepIn K (.ref f5) = true)
    {f6 : Addr} {od6 an6 : Option Addr} {sl6 : Array (Option Value)} {oc6 kV6 dc6 pm6 cd6 ct6 : Value}
    (a6 : PySem.W.nsIn K mainGlobals "_law_asked" = some (some (.ref f6))) (l6 : K.lookup f6 = some ⟨oc6, od6, .func (PySem.W.fnOf "_law_asked" "_law_asked" (defArgs s__law_asked) (defBody s__law_asked) (defScope s__law_asked) .none kV6 dc6 pm6 an6 cd6 ct6), sl6⟩) (c6 : PySem.W.codeIn K cd6 "_law_asked" = true) (k6 : PySem.W.keepIn K (.ref f6) = true)
    {f7 : Addr} {od7 an7 : Option Addr} {sl7 : Array (Option Value)} {oc7 kV7 dc7 pm7 cd7 ct7 : Value}
    (a7 : PySem.W.nsIn K mainGlobals "_law_bag" = some (some (.ref f7))) (l7 : K.lookup f7 = some ⟨oc7, od7, .func (PySem.W.fnOf "_law_bag" "_law_bag" (defArgs s__law_bag) (defBody s__law_bag) (defScope s__law_bag) .none kV7 dc7 pm7 an7 cd7 ct7), sl7⟩) (c7 : PySem.W.codeIn K cd7 "_law_bag" = true) (k7 : PySem.W.keepIn K (.ref f7) = true)
    {f8 : Addr} {od8 an8 : Option Addr} {sl8 : Array (Option Value)} {oc8 kV8 dc8 pm8 cd8 ct8 : Value}
    (a8 : PySem.W.nsIn K mainGlobals "_law_bits" = some (some (.ref f8))) (l8 : K.lookup f8 = some ⟨oc8, od8, .func (PySem.W.fnOf "_law_bits" "_law_bits" (defArgs s__law_bits) (defBody s__law_bits) (defScope s__law_bits) .none kV8 dc8 pm8 an8 cd8 ct8), sl8⟩) (c8 : PySem.W.codeIn K cd8 "_law_bits" = true) (k8 : PySem.W.keepIn K (.ref f8) = true)
    {f9 : Addr} {od9 an9 : Option Addr} {sl9 : Array (Option Value)} {oc9 kV9 dc9 pm9 cd9 ct9 : Value}
    (a9 : PySem.W.nsIn K mainGlobals "_law_sum" = some (some (.ref f9))) (l9 : K.lookup f9 = some ⟨oc9, od9, .func (PySem.W.fnOf "_law_sum" "_law_sum" (defArgs s__law_sum) (defBody s__law_sum) (defScope s__law_sum) .none kV9 dc9 pm9 an9 cd9 ct9), sl9⟩) (c9 : PySem.W.codeIn K cd9 "_law_sum" = true) (k9 : PySem.W.keepIn K (.ref f9) = true)
    {f10 : Addr} {od10 an10 : Option Addr} {sl10 : Array (Option Value)} {oc10 kV10 dc10 pm10 cd10 ct10 : Value}
    (a10 : PySem.W.nsIn K mainGlobals "_law_joined" = some (some (.ref f10))) (l10 : K.lookup f10 = some ⟨oc10, od10, .func (PySem.W.fnOf "_law_joined" "_law_joined" (defArgs s__law_joined) (defBody s__law_joined) (defScope s__law_joined) .none kV10 dc10 pm10 an10 cd10 ct10), sl10⟩) (c10 : PySem.W.codeIn K cd10 "_law_joined" = true) (k10 : PySem.W.keepIn K (.ref f10) = true)
    {f11 : Addr} {od11 an11 : Option Addr} {sl11 : Array (Option Value)} {oc11 kV11 dc11 pm11 cd11 ct11 : Value}
    (a11 : PySem.W.nsIn K mainGlobals "_law_number" = some (some (.ref f11))) (l11 : K.lookup f11 = some ⟨oc11, od11, .func (PySem.W.fnOf "_law_number" "_law_number" (defArgs s__law_number) (defBody s__law_number) (defScope s__law_number) .none kV11 dc11 pm11 an11 cd11 ct11), sl11⟩) (c11 : PySem.W.codeIn K cd11 "_law_number" = true) (k11 : PySem.W.keepIn K (.ref f11) = true)
    {f12 : Addr} {od12 an12 : Option Addr} {sl12 : Array (Option Value)} {oc12 kV12 dc12 pm12 cd12 ct12 : Value}
    (a12 : PySem.W.nsIn K mainGlobals "_law_due" = some (some (.ref f12))) (l12 : K.lookup f12 = some ⟨oc12, od12, .func (PySem.W.fnOf "_law_due" "_law_due" (defArgs s__law_due) (defBody s__law_due) (defScope s__law_due) .none kV12 dc12 pm12 an12 cd12 ct12), sl12⟩) (c12 : PySem.W.codeIn K cd12 "_law_due" = true) (k12 : PySem.W.keepIn K (.ref f12) = true)
    {f13 : Addr} {od13 an13 : Option Addr} {sl13 : Array (Option Value)} {oc13 kV13 dc13 pm13 cd13 ct13 : Value}
    (a13 : PySem.W.nsIn K mainGlobals "_law_of" = some (some (.ref f13))) (l13 : K.lookup f13 = some ⟨oc13, od13, .func (PySem.W.fnOf "_law_of" "_law_of" (defArgs s__law_of) (defBody s__law_of) (defScope s__law_of) .none kV13 dc13 pm13 an13 cd13 ct13), sl13⟩) (c13 : PySem.W.codeIn K cd13 "_law_of" = true) (k13 : PySem.W.keepIn K (.ref f13) = true)
    {f14 : Addr} {od14 an14 : Option Addr} {sl14 : Array (Option Value)} {oc14 kV14 dc14 pm14 cd14 ct14 : Value}
    (a14 : PySem.W.nsIn K mainGlobals "_law_leaf" = some (some (.ref f14))) (l14 : K.lookup f14 = some ⟨oc14, od14, .func (PySem.W.fnOf "_law_leaf" "_law_leaf" (defArgs s__law_leaf) (defBody s__law_leaf) (defScope s__law_leaf) .none kV14 dc14 pm14 an14 cd14 ct14), sl14⟩) (c14 : PySem.W.codeIn K cd14 "_law_leaf" = true) (k14 : PySem.W.keepIn K (.ref f14) = true)
    {f15 : Addr} {od15 an15 : Option Addr} {sl15 : Array (Option Value)} {oc15 kV15 dc15 pm15 cd15 ct15 : Value}
    (a15 : PySem.W.nsIn K mainGlobals "_law_tree" = some (some (.ref f15))) (l15 : K.lookup f15 = some ⟨oc15, od15, .func (PySem.W.fnOf "_law_tree" "_law_tree" (defArgs s__law_tree) (defBody s__law_tree) (defScope s__law_tree) .none kV15 dc15 pm15 an15 cd15 ct15), sl15⟩) (c15 : PySem.W.codeIn K cd15 "_law_tree" = true) (k15 : PySem.W.keepIn K (.ref f15) = true)
    {f16 : Addr} {od16 an16 : Option Addr} {sl16 : Array (Option Value)} {oc16 kV16 dc16 pm16 cd16 ct16 : Value}
    (a16 : PySem.W.nsIn K mainGlobals "_law_chain" = some (some (.ref f16))) (l16 : K.lookup f16 = some ⟨oc16, od16, .func (PySem.W.fnOf "_law_chain" "_law_chain" (defArgs s__law_chain) (defBody s__law_chain) (defScope s__law_chain) .none kV16 dc16 pm16 an16 cd16 ct16), sl16⟩) (c16 : PySem.W.codeIn K cd16 "_law_chain" = true) (k16 : PySem.W.keepIn K (.ref f16) = true)
    {f17 : Addr} {od17 an17 : Option Addr} {sl17 : Array (Option Value)} {oc17 kV17 dc17 pm17 cd17 ct17 : Value}
    (a17 : PySem.W.nsIn K mainGlobals "_law_knots" = some (some (.ref f17))) (l17 : K.lookup f17 = some ⟨oc17, od17, .func (PySem.W.fnOf "_law_knots" "_law_knots" (defArgs s__law_knots) (defBody s__law_knots) (defScope s__law_knots) .none kV17 dc17 pm17 an17 cd17 ct17), sl17⟩) (c17 : PySem.W.codeIn K cd17 "_law_knots" = true) (k17 : PySem.W.keepIn K (.ref f17) = true)
    {f18 : Addr} {od18 an18 : Option Addr} {sl18 : Array (Option Value)} {oc18 kV18 dc18 pm18 cd18 ct18 : Value}
    (a18 : PySem.W.nsIn K mainGlobals "_law_own_words" = some (some (.ref f18))) (l18 : K.lookup f18 = some ⟨oc18, od18, .func (PySem.W.fnOf "_law_own_words" "_law_own_words" (defArgs s__law_own_words) (defBody s__law_own_words) (defScope s__law_own_words) .none kV18 dc18 pm18 an18 cd18 ct18), sl18⟩) (c18 : PySem.W.codeIn K cd18 "_law_own_words" = true) (k18 : PySem.W.keepIn K (.ref f18) = true)
    {f19 : Addr} {od19 an19 : Option Addr} {sl19 : Array (Option Value)} {oc19 kV19 dc19 pm19 cd19 ct19 : Value}
    (a19 : PySem.W.nsIn K mainGlobals "_law_is_name" = some (some (.ref f19))) (l19 : K.lookup f19 = some ⟨oc19, od19, .func (PySem.W.fnOf "_law_is_name" "_law_is_name" (defArgs s__law_is_name) (defBody s__law_is_name) (defScope s__law_is_name) .none kV19 dc19 pm19 an19 cd19 ct19), sl19⟩) (c19 : PySem.W.codeIn K cd19 "_law_is_name" = true) (k19 : PySem.W.keepIn K (.ref f19) = true)
    {f20 : Addr} {od20 an20 : Option Addr} {sl20 : Array (Option Value)} {oc20 kV20 dc20 pm20 cd20 ct20 : Value}
    (a20 : PySem.W.nsIn K mainGlobals "_law_names" = some (some (.ref f20))) (l20 : K.lookup f20 = some ⟨oc20, od20, .func (PySem.W.fnOf "_law_names" "_law_names" (defArgs s__law_names) (defBody s__law_names) (defScope s__law_names) .none kV20 dc20 pm20 an20 cd20 ct20), sl20⟩) (c20 : PySem.W.codeIn K cd20 "_law_names" = true) (k20 : PySem.W.keepIn K (.ref f20) = true)
    {f21 : Addr} {od21 an21 : Option Addr} {sl21 : Array (Option Value)} {oc21 kV21 dc21 pm21 cd21 ct21 : Value}
    (a21 : PySem.W.nsIn K mainGlobals "_law_pairs" = some (some (.ref f21))) (l21 : K.lookup f21 = some ⟨oc21, od21, .func (PySem.W.fnOf "_law_pairs" "_law_pairs" (defArgs s__law_pairs) (defBody s__law_pairs) (defScope s__law_pairs) .none kV21 dc21 pm21 an21 cd21 ct21), sl21⟩) (c21 : PySem.W.codeIn K cd21 "_law_pairs" = true) (k21 : PySem.W.keepIn K (.ref f21) = true)
    {f22 : Addr} {od22 an22 : Option Addr} {sl22 : Array (Option Value)} {oc22 kV22 dc22 pm22 cd22 ct22 : Value}
    (a22 : PySem.W.nsIn K mainGlobals "law" = some (some (.ref f22))) (l22 : K.lookup f22 = some ⟨oc22, od22, .func (PySem.W.fnOf "law" "law" (defArgs s_law) (defBody s_law) (defScope s_law) .none kV22 dc22 pm22 an22 cd22 ct22), sl22⟩) (c22 : PySem.W.codeIn K cd22 "law" = true) (k22 : PySem.W.keepIn K (.ref f22) = true)
    (z0 : PySem.W.nsIn K mainGlobals "all" = some none)
    (z1 : PySem.W.nsIn K mainGlobals "bool" = some none)
    (z2 : PySem.W.nsIn K mainGlobals "dict" = some none)
    (z3 : PySem.W.nsIn K mainGlobals "int" = some none)
    (z4 : PySem.W.nsIn K mainGlobals "isinstance" = some none)
    (z5 : PySem.W.nsIn K mainGlobals "len" = some none)
    (z6 : PySem.W.nsIn K mainGlobals "list" = some none)
    (z7 : PySem.W.nsIn K mainGlobals "range" = some none)
    (z8 : PySem.W.nsIn K mainGlobals "sorted" = some none)
    (z9 : PySem.W.nsIn K mainGlobals "str" = some none)
    (z10 : PySem.W.nsIn K mainGlobals "tuple" = some none)
    (z11 : PySem.W.nsIn K mainGlobals "zip" = some none)
    {p0 : Addr} {pd0 : Option Addr} {ps0 : Array (Option Value)} {pn0 : Nat} {tk0_0 tk0_1 tk0_2 : Tok} (q0 : PySem.W.nsIn K mainGlobals "PREFIXES" = some (some (.ref p0))) (r0 : K.lookup p0 = some ⟨.type "tuple", pd0, .seq #[.str (Str.ofString "~") tk0_0, .str (Str.ofString "half") tk0_1, .str (Str.ofString "twice") tk0_2] pn0, ps0⟩)
    : ∃ fd : FuncData, (∀ (s : Shared) (v : Value), BindsTo s fd ⟨[v], []⟩ [("script", v)]) ∧ ∀ base : Heap, K.In base → base.Ns mainGlobals mg → FnOk l.prog w K mg base (L2.CX l.prog w) 67 fa fd ["script"] (spLaw K) := by
  have e := hfa.symm.trans (PySem.W.mg_of X G a22)
  cases e
  have F0 := fun_mk (st := s__law_draw) l0 c0 k0
  have b0 := F0.binds (ps := ["bag", "size"]) fun _ _ _ _ _ _ us hl => match us, hl with | [_, _], _ => rfl
  have F1 := fun_mk (st := s__law_like) l1 c1 k1
  have b1 := F1.binds (ps := ["found", "due"]) fun _ _ _ _ _ _ us hl => match us, hl with | [_, _], _ => rfl
  have F2 := fun_mk (st := s_prefix_worth) l2 c2 k2
  have b2 := F2.binds (ps := ["prefix", "number", "size"]) fun _ _ _ _ _ _ us hl => match us, hl with | [_, _, _], _ => rfl
  have F3 := fun_mk (st := s_sign_worth) l3 c3 k3
  have b3 := F3.binds (ps := ["sign", "left", "right", "size"]) fun _ _ _ _ _ _ us hl => match us, hl with | [_, _, _, _], _ => rfl
  have F4 := fun_mk (st := s_worth) l4 c4 k4
  have b4 := F4.binds (ps := ["tree", "width", "words", "rows"]) fun _ _ _ _ _ _ us hl => match us, hl with | [_, _, _, _], _ => rfl
  have kb4 := Fun_kwb (ps := ["tree", "width", "words", "rows"]) F4 fun _ _ _ _ _ _ us hl => match us, hl with | [_, _, _, _], _ => rfl
  have F5 := fun_mk (st := s__law_any_lengths_so) l5 c5 k5
  have b5 := F5.binds (ps := ["bag"]) fun _ _ _ _ _ _ us hl => match us, hl with | [_], _ => rfl
  have F6 := fun_mk (st := s__law_asked) l6 c6 k6
  have b6 := F6.binds (ps := ["knot", "wide", "here", "lots", "names", "turn"]) fun _ _ _ _ _ _ us hl => match us, hl with | [_, _, _, _, _, _], _ => rfl
  have F7 := fun_mk (st := s__law_bag) l7 c7 k7
  have b7 := F7.binds (ps := ["script"]) fun _ _ _ _ _ _ us hl => match us, hl with | [_], _ => rfl
  have F8 := fun_mk (st := s__law_bits) l8 c8 k8
  have b8 := F8.binds (ps := ["number", "wide"]) fun _ _ _ _ _ _ us hl => match us, hl with | [_, _], _ => rfl
  have F9 := fun_mk (st := s__law_sum) l9 c9 k9
  have b9 := F9.binds (ps := ["one", "two", "carry"]) fun _ _ _ _ _ _ us hl => match us, hl with | [_, _, _], _ => rfl
  have F10 := fun_mk (st := s__law_joined) l10 c10 k10
  have b10 := F10.binds (ps := ["sign", "one", "two"]) fun _ _ _ _ _ _ us hl => match us, hl with | [_, _, _], _ => rfl
  have F11 := fun_mk (st := s__law_number) l11 c11 k11
  have b11 := F11.binds (ps := ["row"]) fun _ _ _ _ _ _ us hl => match us, hl with | [_], _ => rfl
  have F12 := fun_mk (st := s__law_due) l12 c12 k12
  have b12 := F12.binds (ps := ["knot", "wide", "some", "lots"]) fun _ _ _ _ _ _ us hl => match us, hl with | [_, _, _, _], _ => rfl
  have F13 := fun_mk (st := s__law_of) l13 c13 k13
  have b13 := F13.binds (ps := ["bag", "things"]) fun _ _ _ _ _ _ us hl => match us, hl with | [_, _], _ => rfl
  have F14 := fun_mk (st := s__law_leaf) l14 c14 k14
  have b14 := F14.binds (ps := ["bag", "some", "top"]) fun _ _ _ _ _ _ us hl => match us, hl with | [_, _, _], _ => rfl
  have F15 := fun_mk (st := s__law_tree) l15 c15 k15
  have b15 := F15.binds (ps := ["bag", "room", "some", "lots", "top"]) fun _ _ _ _ _ _ us hl => match us, hl with | [_, _, _, _, _], _ => rfl
  have F16 := fun_mk (st := s__law_chain) l16 c16 k16
  have b16 := F16.binds (ps := ["bag", "some", "lots", "top"]) fun _ _ _ _ _ _ us hl => match us, hl with | [_, _, _, _], _ => rfl
  have F17 := fun_mk (st := s__law_knots) l17 c17 k17
  have b17 := F17.binds (ps := ["bag", "some", "lots", "top"]) fun _ _ _ _ _ _ us hl => match us, hl with | [_, _, _, _], _ => rfl
  have F18 := fun_mk (st := s__law_own_words) l18 c18 k18
  have b18 := F18.binds (ps := []) fun _ _ _ _ _ _ us hl => match us, hl with | [], _ => rfl
  have F19 := fun_mk (st := s__law_is_name) l19 c19 k19
  have b19 := F19.binds (ps := ["piece"]) fun _ _ _ _ _ _ us hl => match us, hl with | [_], _ => rfl
  have F20 := fun_mk (st := s__law_names) l20 c20 k20
  have b20 := F20.binds (ps := ["bag", "many"]) fun _ _ _ _ _ _ us hl => match us, hl with | [_, _], _ => rfl
  have F21 := fun_mk (st := s__law_pairs) l21 c21 k21
  have b21 := F21.binds (ps := ["bag", "wide"]) fun _ _ _ _ _ _ us hl => match us, hl with | [_, _], _ => rfl
  have F22 := fun_mk (st := s_law) l22 c22 k22
  have b22 := F22.binds (ps := ["script"]) fun _ _ _ _ _ _ us hl => match us, hl with | [_], _ => rfl
  let T : Txt K mg := ⟨PySem.W.mg_none_of X G z0,
    PySem.W.mg_none_of X G z1,
    PySem.W.mg_none_of X G z2,
    PySem.W.mg_none_of X G z3,
    PySem.W.mg_none_of X G z4,
    PySem.W.mg_none_of X G z5,
    PySem.W.mg_none_of X G z6,
    PySem.W.mg_none_of X G z7,
    PySem.W.mg_none_of X G z8,
    PySem.W.mg_none_of X G z9,
    PySem.W.mg_none_of X G z10,
    PySem.W.mg_none_of X G z11,
    _, _, F0, PySem.W.mg_of X G a0, b0,
    _, _, F1, PySem.W.mg_of X G a1, b1,
    _, _, F2, PySem.W.mg_of X G a2, b2,
    _, _, F3, PySem.W.mg_of X G a3, b3,
    _, _, F4, PySem.W.mg_of X G a4, b4,
    _, _, F5, PySem.W.mg_of X G a5, b5,
    _, _, F6, PySem.W.mg_of X G a6, b6,
    _, _, F7, PySem.W.mg_of X G a7, b7,
    _, _, F8, PySem.W.mg_of X G a8, b8,
    _, _, F9, PySem.W.mg_of X G a9, b9,
    _, _, F10, PySem.W.mg_of X G a10, b10,
    _, _, F11, PySem.W.mg_of X G a11, b11,
    _, _, F12, PySem.W.mg_of X G a12, b12,
    _, _, F13, PySem.W.mg_of X G a13, b13,
    _, _, F14, PySem.W.mg_of X G a14, b14,
    _, _, F15, PySem.W.mg_of X G a15, b15,
    _, _, F16, PySem.W.mg_of X G a16, b16,
    _, _, F17, PySem.W.mg_of X G a17, b17,
    _, _, F18, PySem.W.mg_of X G a18, b18,
    _, _, F19, PySem.W.mg_of X G a19, b19,
    _, _, F20, PySem.W.mg_of X G a20, b20,
    _, _, F21, PySem.W.mg_of X G a21, b21,
    _, _, F22, PySem.W.mg_of X G a22, b22,
    kb4,
    .ref p0, .ref p0, PySem.W.mg_of X G q0, rfl, fun ρ H => .tup (vs := [.str (Str.ofString "~"), .str (Str.ofString "half"), .str (Str.ofString "twice")]) (.inr ⟨_, _, _, r0, rfl, rfl, (by show 3 ≤ sizeLine; decide), (.cons ⟨_, rfl⟩ (.cons ⟨_, rfl⟩ (.cons ⟨_, rfl⟩ .nil)))⟩) (.cons (.str _) (.cons (.str _) (.cons (.str _) .nil)))⟩
  exact ⟨_, fun s v => .of_eq rfl, fun base _ _ => law_of (ok_law (P := l.prog) (w := w) (base := base) T) ht⟩
end K03
open PySem PySem.W PyProof.Rows
theorem PySem.Challenge.cw_needleblind_k03_whole_worths_of_expressi_holds : PySem.Challenge.rw_needleblind_k03_whole_worths_of_expressi.Holds := by
  w_on; o_law; k_head; (case hw => w_witness2)
  k_fill
  refine L2.walk_of (l := PySem.Challenge.rw_needleblind_k03_whole_worths_of_expressi) (n := 63) (k := 67) (x := "script") (CX := fun w => L2.CX PySem.Challenge.rw_needleblind_k03_whole_worths_of_expressi.prog w) (sp := fun w => Mo.spLaw _) rfl (by decide) rfl ⟨rfl, by decide, by decide⟩ (fun w h Y => PySem.W.kIn_of Y) ?F (fun _ _ a ns hl ho hS => ⟨a, ns, rfl, Mo.fz_of ho hS, hl, fun _ => rfl⟩) (fun _ _ _ _ _ h => Mo.cx_no h)
  case F =>
    intro w mg fa h KX G hmg
    refine' K03.all_mk KX G hmg K03.law_true ?a0 ?l0 ?c0 ?k0 ?a1 ?l1 ?c1 ?k1 ?a2 ?l2 ?c2 ?k2 ?a3 ?l3 ?c3 ?k3 ?a4 ?l4 ?c4 ?k4 ?a5 ?l5 ?c5 ?k5 ?a6 ?l6 ?c6 ?k6 ?a7 ?l7 ?c7 ?k7 ?a8 ?l8 ?c8 ?k8 ?a9 ?l9 ?c9 ?k9 ?a10 ?l10 ?c10 ?k10 ?a11 ?l11 ?c11 ?k11 ?a12 ?l12 ?c12 ?k12 ?a13 ?l13 ?c13 ?k13 ?a14 ?l14 ?c14 ?k14 ?a15 ?l15 ?c15 ?k15 ?a16 ?l16 ?c16 ?k16 ?a17 ?l17 ?c17 ?k17 ?a18 ?l18 ?c18 ?k18 ?a19 ?l19 ?c19 ?k19 ?a20 ?l20 ?c20 ?k20 ?a21 ?l21 ?c21 ?k21 ?a22 ?l22 ?c22 ?k22 ?z0 ?z1 ?z2 ?z3 ?z4 ?z5 ?z6 ?z7 ?z8 ?z9 ?z10 ?z11 ?q0 ?r0
    (case a0 => k_is); (case l0 => k_is); (case c0 => k_is); (case k0 => k_is); (case a1 => k_is); (case l1 => k_is); (case c1 => k_is); (case k1 => k_is); (case a2 => k_is); (case l2 => k_is); (case c2 => k_is); (case k2 => k_is); (case a3 => k_is); (case l3 => k_is); (case c3 => k_is); (case k3 => k_is); (case a4 => k_is); (case l4 => k_is); (case c4 => k_is); (case k4 => k_is); (case a5 => k_is); (case l5 => k_is); (case c5 => k_is); (case k5 => k_is); (case a6 => k_is); (case l6 => k_is); (case c6 => k_is); (case k6 => k_is); (case a7 => k_is); (case l7 => k_is); (case c7 => k_is); (case k7 => k_is); (case a8 => k_is); (case l8 => k_is); (case c8 => k_is); (case k8 => k_is); (case a9 => k_is); (case l9 => k_is); (case c9 => k_is); (case k9 => k_is); (case a10 => k_is); (case l10 => k_is); (case c10 => k_is); (case k10 => k_is); (case a11 => k_is); (case l11 => k_is); (case c11 => k_is); (case k11 => k_is); (case a12 => k_is); (case l12 => k_is); (case c12 => k_is); (case k12 => k_is); (case a13 => k_is); (case l13 => k_is); (case c13 => k_is); (case k13 => k_is); (case a14 => k_is); (case l14 => k_is); (case c14 => k_is); (case k14 => k_is); (case a15 => k_is); (case l15 => k_is); (case c15 => k_is); (case k15 => k_is); (case a16 => k_is); (case l16 => k_is); (case c16 => k_is); (case k16 => k_is); (case a17 => k_is); (case l17 => k_is); (case c17 => k_is); (case k17 => k_is); (case a18 => k_is); (case l18 => k_is); (case c18 => k_is); (case k18 => k_is); (case a19 => k_is); (case l19 => k_is); (case c19 => k_is); (case k19 => k_is); (case a20 => k_is); (case l20 => k_is); (case c20 => k_is); (case k20 => k_is); (case a21 => k_is); (case l21 => k_is); (case c21 => k_is); (case k21 => k_is); (case a22 => k_is); (case l22 => k_is); (case c22 => k_is); (case k22 => k_is); (case z0 => k_is); (case z1 => k_is); (case z2 => k_is); (case z3 => k_is); (case z4 => k_is); (case z5 => k_is); (case z6 => k_is); (case z7 => k_is); (case z8 => k_is); (case z9 => k_is); (case z10 => k_is); (case z11 => k_is); (case q0 => k_is); (case r0 => k_is)


