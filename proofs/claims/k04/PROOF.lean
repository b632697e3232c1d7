import PyProof.Rows.All
import Wide.All
import OpenK.AllK
import Wide.FinOn
import HandS.ForMost
import HandS.ForExc
import HandS.IsInst
import HandS.Wide
import HandS.WideBits
import HandS.TupMul
import HandS.TupAny
import HandS.Conv
import HandS.Zip
import HandS.EndBits
import HandS.Style
import PySem.Challenge.RW_everydepth_k04_books_and_pictures_told_f
set_option Elab.async false
set_option linter.all false
set_option maxRecDepth 100000
/-! S1: a symbolic layer over the hand layer: tuples are trees, lists stand in a small store of their own. -/
namespace Sy
open PySem PySem.Spec PyProof.Rows L2

/-- a symbolic value -/
inductive S where
  | non | bl (b : Bool) | int (i : Int) | str (x : Str) | ptr (a : Addr) | ty (n : String) | tup (xs : List S)
  /-- a list that nothing changes (the script) -/
  | rdl (xs : List S)

/-- a list that nothing changes, at a -/
def FzL (K : PySem.W.Frag) (H : Hp) (a : Addr) (xs : List V) : Prop := (∃ o, H a = some (.frz o (.lst xs))) ∨ SqL K (fun _ => none) a xs
theorem FzL.sq {K : PySem.W.Frag} {H : Hp} {a : Addr} {xs : List V} (h : FzL K H a xs) : SqL K H a xs := by
  rcases h with ⟨o, h⟩ | (h | ⟨o, h⟩) | h
  · exact .inl (.inr ⟨o, h⟩)
  · cases h
  · cases h
  · exact .inr h

/-- a tuple, tracked or of the module -/
def TqT (K : PySem.W.Frag) (H : Hp) (a : Addr) (xs : List V) : Prop := H a = some (.tup xs) ∨ SqT K (fun _ => none) a xs
theorem TqT.sq {K : PySem.W.Frag} {H : Hp} {a : Addr} {xs : List V} (h : TqT K H a xs) : SqT K H a xs := by
  rcases h with h | (h | ⟨o, h⟩) | h
  · exact .inl (.inl h)
  · cases h
  · cases h
  · exact .inr h

mutual
inductive RV (K : PySem.W.Frag) (H : Hp) : S → V → Prop
  | non : RV K H .non .non
  | bl (b : Bool) : RV K H (.bl b) (.bl b)
  | int (i : Int) : RV K H (.int i) (.int i)
  | str (x : Str) : RV K H (.str x) (.str x)
  | ptr (a : Addr) : RV K H (.ptr a) (.ref a)
  | ty (n : String) : RV K H (.ty n) (.ty n)
  | tup {a : Addr} {xs : List V} {ss : List S} : TqT K H a xs → RVs K H ss xs → RV K H (.tup ss) (.ref a)
  | rdl {a : Addr} {xs : List V} {ss : List S} : FzL K H a xs → RVs K H ss xs → RV K H (.rdl ss) (.ref a)
inductive RVs (K : PySem.W.Frag) (H : Hp) : List S → List V → Prop
  | nil : RVs K H [] []
  | cons {s : S} {v : V} {ss : List S} {vs : List V} : RV K H s v → RVs K H ss vs → RVs K H (s :: ss) (v :: vs)
end

/-- tuples stay -/
structure Keep (K : PySem.W.Frag) (H H' : Hp) : Prop where
  tup : ∀ a xs, TqT K H a xs → TqT K H' a xs
  fzl : ∀ a xs, FzL K H a xs → FzL K H' a xs
theorem Keep.refl {K : PySem.W.Frag} {H : Hp} : Keep K H H := ⟨fun _ _ h => h, fun _ _ h => h⟩
theorem Keep.trans {K : PySem.W.Frag} {H H1 H2 : Hp} (a : Keep K H H1) (b : Keep K H1 H2) : Keep K H H2 := ⟨fun c xs h => b.tup c xs (a.tup c xs h), fun c xs h => b.fzl c xs (a.fzl c xs h)⟩

section
variable {K : PySem.W.Frag} {H H' : Hp}
mutual
theorem RV.mono (k : Keep K H H') : ∀ (s : S) (v : V), RV K H s v → RV K H' s v
  | .non, _, h => by cases h; exact .non
  | .bl b, _, h => by cases h; exact .bl b
  | .int i, _, h => by cases h; exact .int i
  | .str x, _, h => by cases h; exact .str x
  | .ptr a, _, h => by cases h; exact .ptr a
  | .ty n, _, h => by cases h; exact .ty n
  | .tup ss, _, h => by
    cases h with
    | tup h1 h2 => exact .tup (k.tup _ _ h1) (RVs.mono k ss _ h2)
  | .rdl ss, _, h => by
    cases h with
    | rdl h1 h2 => exact .rdl (k.fzl _ _ h1) (RVs.mono k ss _ h2)
theorem RVs.mono (k : Keep K H H') : ∀ (ss : List S) (vs : List V), RVs K H ss vs → RVs K H' ss vs
  | [], _, h => by cases h; exact .nil
  | s :: ss, _, h => by
    cases h with
    | cons h1 h2 => exact .cons (RV.mono k s _ h1) (RVs.mono k ss _ h2)
end
theorem RVs.length : ∀ {ss : List S} {vs : List V}, RVs K H ss vs → ss.length = vs.length
  | _, _, .nil => rfl
  | _, _, .cons _ t => by rw [List.length_cons, List.length_cons, RVs.length t]
theorem RVs.get : ∀ {ss : List S} {vs : List V} {i : Nat} {s : S}, RVs K H ss vs → ss[i]? = some s → ∃ v, vs[i]? = some v ∧ RV K H s v
  | _, _, _, _, .nil, e => by simp at e
  | _, _, 0, _, .cons r _, e => by simp at e; subst e; exact ⟨_, rfl, r⟩
  | _, _, i + 1, _, .cons _ t, e => by
    obtain ⟨v, h1, h2⟩ := RVs.get (i := i) t (by simpa using e)
    exact ⟨v, by simpa using h1, h2⟩
theorem RVs.getV : ∀ {ss : List S} {vs : List V} {i : Nat} {v : V}, RVs K H ss vs → vs[i]? = some v → ∃ s, ss[i]? = some s ∧ RV K H s v
  | _, _, _, _, .nil, e => by simp at e
  | _, _, 0, _, .cons r _, e => by simp at e; subst e; exact ⟨_, rfl, r⟩
  | _, _, i + 1, _, .cons _ t, e => by
    obtain ⟨v, h1, h2⟩ := RVs.getV (i := i) t (by simpa using e)
    exact ⟨v, by simpa using h1, h2⟩
theorem RVs.append : ∀ {ss ts : List S} {vs ws : List V}, RVs K H ss vs → RVs K H ts ws → RVs K H (ss ++ ts) (vs ++ ws)
  | _, _, _, _, .nil, s => s
  | _, _, _, _, .cons r t, s => .cons r (RVs.append t s)
theorem RVs.take : ∀ {ss : List S} {vs : List V} (n : Nat), RVs K H ss vs → RVs K H (ss.take n) (vs.take n)
  | _, _, 0, _ => .nil
  | _, _, _ + 1, .nil => .nil
  | _, _, n + 1, .cons r t => .cons r (RVs.take n t)
theorem RVs.drop : ∀ {ss : List S} {vs : List V} (n : Nat), RVs K H ss vs → RVs K H (ss.drop n) (vs.drop n)
  | _, _, 0, r => r
  | _, _, _ + 1, .nil => .nil
  | _, _, n + 1, .cons _ t => RVs.drop n t
theorem RVs.set {s : S} {v : V} (r : RV K H s v) : ∀ {ss : List S} {vs : List V} (i : Nat), RVs K H ss vs → RVs K H (ss.set i s) (vs.set i v)
  | _, _, _, .nil => .nil
  | _, _, 0, .cons _ t => .cons r t
  | _, _, i + 1, .cons q t => .cons q (RVs.set r i t)
theorem RVs.reverse : ∀ {ss : List S} {vs : List V}, RVs K H ss vs → RVs K H ss.reverse vs.reverse
  | _, _, .nil => .nil
  | _, _, .cons r t => by
    rw [List.reverse_cons, List.reverse_cons]
    exact (RVs.reverse t).append (.cons r .nil)
theorem RVs.dropLast {ss : List S} {vs : List V} (h : RVs K H ss vs) : RVs K H ss.dropLast vs.dropLast := by
  rw [List.dropLast_eq_take, List.dropLast_eq_take, h.length]
  exact h.take _
theorem RVs.eraseIdx : ∀ {ss : List S} {vs : List V} (i : Nat), RVs K H ss vs → RVs K H (ss.eraseIdx i) (vs.eraseIdx i)
  | _, _, _, .nil => .nil
  | _, _, 0, .cons _ t => t
  | _, _, i + 1, .cons q t => .cons q (RVs.eraseIdx i t)
theorem RVs.rep {ss : List S} {vs : List V} (h : RVs K H ss vs) : ∀ n : Nat, RVs K H (List.replicate n ss).flatten (List.replicate n vs).flatten
  | 0 => .nil
  | n + 1 => by
    rw [List.replicate_succ, List.replicate_succ, List.flatten_cons, List.flatten_cons]
    exact h.append (h.rep n)
theorem RVs.ints : ∀ (ns : List Int), RVs K H (ns.map S.int) (ns.map V.int)
  | [] => .nil
  | n :: ns => .cons (.int n) (RVs.ints ns)
end

/-- what stands in the store -/
inductive MO where
  | lst (xs : List S) | dK (kvs : List (Key × S))
abbrev Mem := Addr → Option MO
def updM (M : Mem) (a : Addr) (o : MO) : Mem := fun b => if b = a then some o else M b
theorem updM_same {M : Mem} {a : Addr} {o : MO} : updM M a o a = some o := by unfold updM; rw [if_pos rfl]
theorem updM_ne {M : Mem} {a b : Addr} {o : MO} (h : b ≠ a) : updM M a o b = M b := by unfold updM; rw [if_neg h]
theorem updM_updM {M : Mem} {a : Addr} {o u : MO} : updM (updM M a o) a u = updM M a u := by
  funext b; unfold updM; split <;> rfl
theorem neM {M : Mem} {a b : Addr} {o : MO} (h : M a = some o) (h' : M b = none) : a ≠ b := by
  intro e; rw [e, h'] at h; cases h

inductive KR (K : PySem.W.Frag) (H : Hp) : List (Key × S) → List (Key × V) → Prop
  | nil : KR K H [] []
  | cons {k : Key} {s : S} {v : V} {ss : List (Key × S)} {vs : List (Key × V)} : RV K H s v → KR K H ss vs → KR K H ((k, s) :: ss) ((k, v) :: vs)
theorem KR.mono {K : PySem.W.Frag} {H H' : Hp} (k : Keep K H H') : ∀ {ss : List (Key × S)} {vs : List (Key × V)}, KR K H ss vs → KR K H' ss vs
  | _, _, .nil => .nil
  | _, _, .cons r t => .cons (r.mono k) (KR.mono k t)

def MR (K : PySem.W.Frag) (H : Hp) (a : Addr) : MO → Prop
  | .lst ss => ∃ vs, H a = some (.lst vs) ∧ RVs K H ss vs
  | .dK kvs => ∃ ws, H a = some (.dK ws) ∧ KR K H kvs ws
def MemR (K : PySem.W.Frag) (M : Mem) (H : Hp) : Prop := ∀ a o, M a = some o → MR K H a o
theorem RV.up {K : PySem.W.Frag} {H H' : Hp} {s : S} {v : V} (h : RV K H s v) (k : Keep K H H') : RV K H' s v := RV.mono k s v h
theorem RVs.up {K : PySem.W.Frag} {H H' : Hp} {s : List S} {v : List V} (h : RVs K H s v) (k : Keep K H H') : RVs K H' s v := RVs.mono k s v h
theorem MR.up {K : PySem.W.Frag} {H H' : Hp} {a : Addr} {o : MO} (k : Keep K H H') (e : H' a = H a) (h : MR K H a o) : MR K H' a o := by
  cases o with
  | lst ss => obtain ⟨vs, h1, h2⟩ := h; exact ⟨vs, e.trans h1, h2.up k⟩
  | dK kvs => obtain ⟨vs, h1, h2⟩ := h; exact ⟨vs, e.trans h1, h2.mono k⟩
theorem MR.there {K : PySem.W.Frag} {H : Hp} {a : Addr} {o : MO} (h : MR K H a o) : H a ≠ none := by
  cases o with
  | lst ss => obtain ⟨vs, h1, h2⟩ := h; rw [h1]; exact fun z => nomatch z
  | dK kvs => obtain ⟨vs, h1, h2⟩ := h; rw [h1]; exact fun z => nomatch z
theorem MemR.free {K : PySem.W.Frag} {M : Mem} {H : Hp} {a : Addr} (m : MemR K M H) (h : H a = none) : M a = none := by
  cases e : M a with
  | none => rfl
  | some o => exact absurd h (m a o e).there

/-- what stands at p may be changed: nothing, a list or a dict of ours -/
def Soft : Option HO → Prop
  | none => True
  | some (.lst _) => True
  | some (.dK _) => True
  | _ => False
theorem keep_put {K : PySem.W.Frag} {H : Hp} {p : Addr} {o : HO} (s : Soft (H p)) : Keep K H (upd H p o) := by
  have n1 : ∀ a xs, H a = some (.tup xs) → a ≠ p := fun a xs e z => by rw [← z, e] at s; exact s
  have n2 : ∀ a ob u, H a = some (.frz ob u) → a ≠ p := fun a ob u e z => by rw [← z, e] at s; exact s
  refine ⟨fun a xs q => ?_, fun a xs q => ?_⟩
  · rcases q with q | q
    · exact .inl ((upd_ne (n1 _ _ q)).trans q)
    · exact .inr q
  · rcases q with ⟨ob, q⟩ | q
    · exact .inl ⟨ob, (upd_ne (n2 _ _ _ q)).trans q⟩
    · exact .inr q
theorem keep_new {K : PySem.W.Frag} {H : Hp} {p : Addr} {o : HO} (h : H p = none) : Keep K H (upd H p o) := keep_put (by rw [h]; exact True.intro)
theorem keep_lst {K : PySem.W.Frag} {H : Hp} {p : Addr} {o : HO} {vs : List V} (h : H p = some (.lst vs)) : Keep K H (upd H p o) := keep_put (by rw [h]; exact True.intro)
theorem keep_dK {K : PySem.W.Frag} {H : Hp} {p : Addr} {o : HO} {vs : List (Key × V)} (h : H p = some (.dK vs)) : Keep K H (upd H p o) := keep_put (by rw [h]; exact True.intro)
/-- the store behind a write at p, or a new object there -/
theorem MemR.put {K : PySem.W.Frag} {M : Mem} {H : Hp} {p : Addr} {o : HO} {u : MO} (k : Keep K H (upd H p o)) (m : MemR K M H) (n : MR K (upd H p o) p u) : MemR K (updM M p u) (upd H p o) := fun a x e => by
  by_cases h : a = p
  · subst h
    rw [updM_same] at e
    cases e
    exact n
  · rw [updM_ne h] at e
    exact (m a x e).up k (upd_ne h)
/-- a new object that the store does not tell -/
theorem MemR.skip {K : PySem.W.Frag} {M : Mem} {H : Hp} {p : Addr} {o : HO} (h : H p = none) (m : MemR K M H) : MemR K M (upd H p o) := fun a x e =>
  (m a x e).up (keep_new h) (upd_ne fun z => (m a x e).there (by rw [z]; exact h))

/-- the slots -/
inductive EnvR (K : PySem.W.Frag) (H : Hp) : List (Option S) → List (Option V) → Prop
  | nil : EnvR K H [] []
  | nah {o : Option V} {es : List (Option S)} {os : List (Option V)} : EnvR K H es os → EnvR K H (none :: es) (o :: os)
  | yea {s : S} {v : V} {es : List (Option S)} {os : List (Option V)} : RV K H s v → EnvR K H es os → EnvR K H (some s :: es) (some v :: os)
section
variable {K : PySem.W.Frag} {H H' : Hp}
theorem EnvR.up (k : Keep K H H') : ∀ {es : List (Option S)} {os : List (Option V)}, EnvR K H es os → EnvR K H' es os
  | _, _, .nil => .nil
  | _, _, .nah t => .nah (EnvR.up k t)
  | _, _, .yea r t => .yea (r.up k) (EnvR.up k t)
theorem EnvR.get : ∀ {es : List (Option S)} {os : List (Option V)} {i : Nat} {s : S}, EnvR K H es os → es[i]? = some (some s) → ∃ v, os[i]? = some (some v) ∧ RV K H s v
  | _, _, _, _, .nil, e => by simp at e
  | _, _, 0, _, .nah _, e => by simp at e
  | _, _, 0, _, .yea r _, e => by simp at e; subst e; exact ⟨_, rfl, r⟩
  | _, _, i + 1, _, .nah t, e => by
    obtain ⟨v, h1, h2⟩ := EnvR.get (i := i) t (by simpa using e)
    exact ⟨v, by simpa using h1, h2⟩
  | _, _, i + 1, _, .yea _ t, e => by
    obtain ⟨v, h1, h2⟩ := EnvR.get (i := i) t (by simpa using e)
    exact ⟨v, by simpa using h1, h2⟩
theorem EnvR.set {s : S} {v : V} (r : RV K H s v) : ∀ {es : List (Option S)} {os : List (Option V)} (i : Nat), EnvR K H es os → EnvR K H (es.set i (some s)) (os.set i (some v))
  | _, _, _, .nil => .nil
  | _, _, 0, .nah t => .yea r t
  | _, _, 0, .yea _ t => .yea r t
  | _, _, i + 1, .nah t => .nah (EnvR.set r i t)
  | _, _, i + 1, .yea q t => .yea q (EnvR.set r i t)
/-- a slot is forgotten -/
theorem EnvR.forget {o : Option V} : ∀ {es : List (Option S)} {os : List (Option V)} (i : Nat), EnvR K H es os → EnvR K H (es.set i none) (os.set i o)
  | _, _, _, .nil => .nil
  | _, _, 0, .nah t => .nah t
  | _, _, 0, .yea _ t => .nah t
  | _, _, i + 1, .nah t => .nah (EnvR.forget i t)
  | _, _, i + 1, .yea q t => .yea q (EnvR.forget i t)
theorem EnvR.of (ss : List S) : ∀ {vs : List V}, RVs K H ss vs → ∀ n, EnvR K H (ss.map some ++ List.replicate n none) (vs.map some ++ List.replicate n none) := by
  induction ss with
  | nil =>
    intro vs h n
    cases h
    induction n with
    | zero => exact .nil
    | succ n ih => exact .nah ih
  | cons s ss ih =>
    intro vs h n
    cases h with
    | cons r t => exact .yea r (ih t n)
end

abbrev Ev := List (Option S)
/-- the symbolic state of a def: G what stood at its entry -/
structure Rel (K : PySem.W.Frag) (G : Hp) (env : Ev) (M : Mem) (σ : L2.St) (H : Hp) : Prop where
  base : Keep K G H
  env : EnvR K H env σ
  mem : MemR K M H
theorem Rel.step {K : PySem.W.Frag} {G : Hp} {env : Ev} {M M' : Mem} {σ : L2.St} {H H' : Hp} (r : Rel K G env M σ H) (k : Keep K H H') (m : MemR K M' H') : Rel K G env M' σ H' := ⟨r.base.trans k, r.env.up k, m⟩
theorem Rel.set {K : PySem.W.Frag} {G : Hp} {env : Ev} {M : Mem} {σ : L2.St} {H : Hp} {s : S} {v : V} (r : Rel K G env M σ H) (q : RV K H s v) (i : Nat) : Rel K G (env.set i (some s)) M (σ.set i (some v)) H := ⟨r.base, r.env.set q i, r.mem⟩
end Sy

set_option Elab.async false
set_option linter.all false
set_option maxRecDepth 100000
/-! S2: the judgements and their rules. -/
namespace Sy
open PySem PySem.Spec PyProof.Rows L2
abbrev QS := S → Mem → Prop
section
variable (X : Cx) (G : Hp)
def PostE (H : Hp) (Q : QS) : VK := fun v H' => ∃ s M', Keep X.K H H' ∧ RV X.K H' s v ∧ MemR X.K M' H' ∧ Q s M'
def PostA (H : Hp) (Q : List S → Mem → Prop) : List V → Hp → Prop := fun v H' => ∃ s M', Keep X.K H H' ∧ RVs X.K H' s v ∧ MemR X.K M' H' ∧ Q s M'
def PostT (H : Hp) (Q : Bool → Mem → Prop) : Bool → Hp → Prop := fun b H' => ∃ M', Keep X.K H H' ∧ MemR X.K M' H' ∧ Q b M'
/-- the expression e, at the symbolic state, gives a value and a store of which Q holds -/
def SE (e : Expr) (env : Ev) (M : Mem) (Q : QS) : Prop := ∀ σ H, Rel X.K G env M σ H → ∃ t, PE X e t ∧ t σ H (PostE X H Q)
def SA (es : List Expr) (env : Ev) (M : Mem) (Q : List S → Mem → Prop) : Prop := ∀ σ H, Rel X.K G env M σ H → ∃ t, PA X es t ∧ t σ H (PostA X H Q)
def ST (e : Expr) (env : Ev) (M : Mem) (Q : Bool → Mem → Prop) : Prop := ∀ σ H, Rel X.K G env M σ H → ∃ t, PT X e t ∧ t σ H (PostT X H Q)
def SW (e : Expr) (env : Ev) (M : Mem) (Q : Bool → Mem → Prop) : Prop := ∀ σ H, Rel X.K G env M σ H → ∃ t, PW X e t ∧ t σ H (PostT X H Q)
/-- what is wanted behind a statement -/
structure SD where
  nx : Ev → Mem → Prop
  rt : QS
  bk : Ev → Mem → Prop := fun _ _ => False
  ct : Ev → Mem → Prop := fun _ _ => False
def Dn (n : Ev → Mem → Prop) : L2.St → Hp → Prop := fun σ H => ∃ env M, Rel X.K G env M σ H ∧ n env M
def Dr (D : SD) : Ends := { nx := Dn X G D.nx, rt := fun v H => ∃ s M, Keep X.K G H ∧ RV X.K H s v ∧ MemR X.K M H ∧ D.rt s M, bk := Dn X G D.bk, ct := Dn X G D.ct }
def SS (st : Stmt) (env : Ev) (M : Mem) (D : SD) : Prop := ∀ G1, Keep X.K G G1 → ∀ σ H, Rel X.K G1 env M σ H → ∃ t, PS X st t ∧ t (Dr X G1 D) σ H
def SSs (st : List Stmt) (env : Ev) (M : Mem) (D : SD) : Prop := ∀ G1, Keep X.K G G1 → ∀ σ H, Rel X.K G1 env M σ H → ∃ t, PSs X st t ∧ t (Dr X G1 D) σ H

def tS (e : Expr) : TE := fun σ H R => ∃ env M Q, Rel X.K G env M σ H ∧ SE X G e env M Q ∧ ∀ v H', PostE X H Q v H' → R v H'
def tSA (es : List Expr) : TA := fun σ H R => ∃ env M Q, Rel X.K G env M σ H ∧ SA X G es env M Q ∧ ∀ v H', PostA X H Q v H' → R v H'
def tST (e : Expr) : TT := fun σ H R => ∃ env M Q, Rel X.K G env M σ H ∧ ST X G e env M Q ∧ ∀ v H', PostT X H Q v H' → R v H'
def tSW (e : Expr) : TT := fun σ H R => ∃ env M Q, Rel X.K G env M σ H ∧ SW X G e env M Q ∧ ∀ v H', PostT X H Q v H' → R v H'
structure DLe (D D' : Ends) : Prop where
  nx : ∀ σ H, D.nx σ H → D'.nx σ H
  rt : ∀ v H, D.rt v H → D'.rt v H
  bk : ∀ σ H, D.bk σ H → D'.bk σ H
  ct : ∀ σ H, D.ct σ H → D'.ct σ H
def tSS (st : Stmt) : TS := fun D σ H => ∃ env M D' G1, Keep X.K G G1 ∧ Rel X.K G1 env M σ H ∧ SS X G st env M D' ∧ DLe (Dr X G1 D') D
def tSSs (st : List Stmt) : TS := fun D σ H => ∃ env M D' G1, Keep X.K G G1 ∧ Rel X.K G1 env M σ H ∧ SSs X G st env M D' ∧ DLe (Dr X G1 D') D
end
theorem DLe.refl {D : Ends} : DLe D D := ⟨fun _ _ h => h, fun _ _ h => h, fun _ _ h => h, fun _ _ h => h⟩
section
variable {X : Cx} {G : Hp}
theorem sp_le {D D' : Ends} (l : DLe D D') {pins : List (Addr × Obj)} {f : Flow} {s : Shared} (h : SP X pins D f s) : SP X pins D' f s := by
  cases f with
  | next => obtain ⟨a, b, c, d⟩ := h; exact ⟨a, b, c, l.nx _ _ d⟩
  | brk => obtain ⟨a, b, c, d⟩ := h; exact ⟨a, b, c, l.bk _ _ d⟩
  | cont => obtain ⟨a, b, c, d⟩ := h; exact ⟨a, b, c, l.ct _ _ d⟩
  | ret u => obtain ⟨a, b, c, d, e, g⟩ := h; exact ⟨a, b, c, d, e, l.rt _ _ g⟩
theorem pe_S {e : Expr} : PE X e (tS X G e) := ⟨fun pins s σ H R I h => by
  obtain ⟨env, M, Q, r, hs, k⟩ := h
  obtain ⟨t, p, ht⟩ := hs σ H r
  exact thn (p.run pins s σ H _ I ht) fun u s1 ⟨v, H', I', rv, q⟩ => ⟨v, H', I', rv, k v H' q⟩⟩
theorem pa_S {es : List Expr} : PA X es (tSA X G es) := ⟨fun pos pins s σ H R I h => by
  obtain ⟨env, M, Q, r, hs, k⟩ := h
  obtain ⟨t, p, ht⟩ := hs σ H r
  exact thn (p.run pos pins s σ H _ I ht) fun u s1 ⟨v, H', I', rv, q⟩ => ⟨v, H', I', rv, k v H' q⟩⟩
theorem pt_S {e : Expr} : PT X e (tST X G e) := ⟨fun pins s σ H R I h => by
  obtain ⟨env, M, Q, r, hs, k⟩ := h
  obtain ⟨t, p, ht⟩ := hs σ H r
  exact thn (p.run pins s σ H _ I ht) fun u s1 ⟨H', I', q⟩ => ⟨H', I', k u H' q⟩⟩
theorem pw_S {e : Expr} : PW X e (tSW X G e) := ⟨fun wh pins s σ H R I h => by
  obtain ⟨env, M, Q, r, hs, k⟩ := h
  obtain ⟨t, p, ht⟩ := hs σ H r
  exact thn (p.run wh pins s σ H _ I ht) fun u s1 ⟨H', I', q⟩ => ⟨H', I', k u H' q⟩⟩
theorem ps_S {st : Stmt} : PS X st (tSS X G st) := ⟨fun pins s σ H D I h => by
  obtain ⟨env, M, D', G1, kG, r, hs, k⟩ := h
  obtain ⟨t, p, ht⟩ := hs G1 kG σ H r
  exact thn (p.run pins s σ H _ I ht) fun u s1 q => sp_le k q⟩
theorem pss_S {st : List Stmt} : PSs X st (tSSs X G st) := ⟨fun pins s σ H D I h => by
  obtain ⟨env, M, D', G1, kG, r, hs, k⟩ := h
  obtain ⟨t, p, ht⟩ := hs G1 kG σ H r
  exact thn (p.run pins s σ H _ I ht) fun u s1 q => sp_le k q⟩

/-! ### mono -/
theorem PostE.mono {H : Hp} {Q Q' : QS} {v : V} {H' : Hp} (h : PostE X H Q v H') (k : ∀ s M, Q s M → Q' s M) : PostE X H Q' v H' := by
  obtain ⟨s, M, a, b, c, d⟩ := h; exact ⟨s, M, a, b, c, k _ _ d⟩
theorem PostE.back {H H1 : Hp} {Q : QS} {v : V} {H' : Hp} (k : Keep X.K H H1) (h : PostE X H1 Q v H') : PostE X H Q v H' := by
  obtain ⟨s, M, a, b, c, d⟩ := h; exact ⟨s, M, k.trans a, b, c, d⟩
theorem PostA.back {H H1 : Hp} {Q : List S → Mem → Prop} {v : List V} {H' : Hp} (k : Keep X.K H H1) (h : PostA X H1 Q v H') : PostA X H Q v H' := by
  obtain ⟨s, M, a, b, c, d⟩ := h; exact ⟨s, M, k.trans a, b, c, d⟩
theorem PostT.back {H H1 : Hp} {Q : Bool → Mem → Prop} {v : Bool} {H' : Hp} (k : Keep X.K H H1) (h : PostT X H1 Q v H') : PostT X H Q v H' := by
  obtain ⟨M, a, c, d⟩ := h; exact ⟨M, k.trans a, c, d⟩
theorem pack {H : Hp} {Q : QS} {s : S} {v : V} {M : Mem} (r : RV X.K H s v) (m : MemR X.K M H) (q : Q s M) : PostE X H Q v H := ⟨s, M, Keep.refl, r, m, q⟩

/-! ### the two heads: a tS from an SE -/
theorem tS_go {e : Expr} {env : Ev} {M : Mem} {Q : QS} {σ : L2.St} {H : Hp} {R : VK} (r : Rel X.K G env M σ H) (h : SE X G e env M Q) (k : ∀ s M' v H', Keep X.K H H' → RV X.K H' s v → Rel X.K G env M' σ H' → Q s M' → R v H') : tS X G e σ H R :=
  ⟨env, M, Q, r, h, fun v H' ⟨s, M', a, b, c, d⟩ => k s M' v H' a b (r.step a c) d⟩
theorem Rel.weak {K : PySem.W.Frag} {G G1 : Hp} {env : Ev} {M : Mem} {σ : L2.St} {H : Hp} (r : Rel K G1 env M σ H) (k : Keep K G G1) : Rel K G env M σ H := ⟨k.trans r.base, r.env, r.mem⟩
theorem tS_at {e : Expr} {env : Ev} {M : Mem} {Q : QS} {σ : L2.St} {H G1 : Hp} {R : VK} (kG : Keep X.K G G1) (r : Rel X.K G1 env M σ H) (h : SE X G e env M Q) (k : ∀ s M' v H', Keep X.K H H' → RV X.K H' s v → Rel X.K G1 env M' σ H' → Q s M' → R v H') : tS X G e σ H R :=
  ⟨env, M, Q, r.weak kG, h, fun v H' ⟨s, M', a, b, c, d⟩ => k s M' v H' a b (r.step a c) d⟩
theorem tSA_at {e : List Expr} {env : Ev} {M : Mem} {Q : List S → Mem → Prop} {σ : L2.St} {H G1 : Hp} {R : List V → Hp → Prop} (kG : Keep X.K G G1) (r : Rel X.K G1 env M σ H) (h : SA X G e env M Q) (k : ∀ s M' v H', Keep X.K H H' → RVs X.K H' s v → Rel X.K G1 env M' σ H' → Q s M' → R v H') : tSA X G e σ H R :=
  ⟨env, M, Q, r.weak kG, h, fun v H' ⟨s, M', a, b, c, d⟩ => k s M' v H' a b (r.step a c) d⟩
theorem tST_at {e : Expr} {env : Ev} {M : Mem} {Q : Bool → Mem → Prop} {σ : L2.St} {H G1 : Hp} {R : Bool → Hp → Prop} (kG : Keep X.K G G1) (r : Rel X.K G1 env M σ H) (h : ST X G e env M Q) (k : ∀ b M' H', Keep X.K H H' → Rel X.K G1 env M' σ H' → Q b M' → R b H') : tST X G e σ H R :=
  ⟨env, M, Q, r.weak kG, h, fun v H' ⟨M', a, c, d⟩ => k v M' H' a (r.step a c) d⟩
theorem tSA_go {e : List Expr} {env : Ev} {M : Mem} {Q : List S → Mem → Prop} {σ : L2.St} {H : Hp} {R : List V → Hp → Prop} (r : Rel X.K G env M σ H) (h : SA X G e env M Q) (k : ∀ s M' v H', Keep X.K H H' → RVs X.K H' s v → Rel X.K G env M' σ H' → Q s M' → R v H') : tSA X G e σ H R :=
  ⟨env, M, Q, r, h, fun v H' ⟨s, M', a, b, c, d⟩ => k s M' v H' a b (r.step a c) d⟩
theorem tST_go {e : Expr} {env : Ev} {M : Mem} {Q : Bool → Mem → Prop} {σ : L2.St} {H : Hp} {R : Bool → Hp → Prop} (r : Rel X.K G env M σ H) (h : ST X G e env M Q) (k : ∀ b M' H', Keep X.K H H' → Rel X.K G env M' σ H' → Q b M' → R b H') : tST X G e σ H R :=
  ⟨env, M, Q, r, h, fun v H' ⟨M', a, c, d⟩ => k v M' H' a (r.step a c) d⟩
theorem tSW_go {e : Expr} {env : Ev} {M : Mem} {Q : Bool → Mem → Prop} {σ : L2.St} {H : Hp} {R : Bool → Hp → Prop} (r : Rel X.K G env M σ H) (h : SW X G e env M Q) (k : ∀ b M' H', Keep X.K H H' → Rel X.K G env M' σ H' → Q b M' → R b H') : tSW X G e σ H R :=
  ⟨env, M, Q, r, h, fun v H' ⟨M', a, c, d⟩ => k v M' H' a (r.step a c) d⟩

/-! ### names and constants -/
variable {env : Ev} {M : Mem} {Q : QS} {a b c e : Expr} {es : List Expr} {pos : Pos}
theorem se_name {i : Nat} {x : Str} {s : S} (he : env[i]? = some (some s)) (hN : X.N[i]? = some x) (hv : Vis X.env.scope x) (q : Q s M) (hd : (x == ("__debug__" : Str)) = false := by decide) (hcd : (x == ("__classdict__" : Str)) = false := by decide) : SE X G (.Name x pos) env M Q := fun σ H r => by
  obtain ⟨v, e1, rv⟩ := r.env.get he
  exact ⟨_, pe_var hN hv hd hcd, v, e1, pack rv r.mem q⟩
theorem se_int {i : Int} {j} (q : Q (.int i) M) : SE X G (.Constant (.int i) j pos) env M Q := fun σ H r => ⟨_, pe_int, pack (.int i) r.mem q⟩
theorem se_bl {i : Bool} {j} (q : Q (.bl i) M) : SE X G (.Constant (.bool i) j pos) env M Q := fun σ H r => ⟨_, pe_bl, pack (.bl i) r.mem q⟩
theorem se_non {j} (q : Q .non M) : SE X G (.Constant .none j pos) env M Q := fun σ H r => ⟨_, pe_non, pack .non r.mem q⟩
theorem se_str {x : Str} {j} (q : Q (.str x) M) : SE X G (.Constant (.str x) j pos) env M Q := fun σ H r => ⟨_, pe_str, pack (.str x) r.mem q⟩
/-- a constant of the module -/
theorem se_glob {x : Str} {s : S} {v : V} {u : Value} (hg : Gl X x) (hm : X.mg x = some u) (hr : RelV v u) (hs : ∀ H, RV X.K H s v) (q : Q s M) (hd : (x == ("__debug__" : Str)) = false := by decide) : SE X G (.Name x pos) env M Q := fun σ H r =>
  ⟨_, pe_glob hg hm hr hd, pack (hs H) r.mem q⟩
theorem se_bltn {x : Str} {n : String} (hg : Gl X x) (hm : X.mg x = none) (hv : bootBuiltins x = some (.type n)) (q : Q (.ty n) M) (hn : x ≠ "__name__" := by decide) (hd : (x == ("__debug__" : Str)) = false := by decide) : SE X G (.Name x pos) env M Q := fun σ H r =>
  ⟨_, pe_bltn (v := .ty n) hg hm hv rfl hn hd, pack (.ty n) r.mem q⟩

/-! ### operators -/
def RO (X : Cx) (op : Operator) (x y : S) (M : Mem) (Q : QS) : Prop := ∀ v w H, MemR X.K M H → RV X.K H x v → RV X.K H y w → ∃ r, OpR X (binaryOp op) r ∧ r v w H (PostE X H Q)
def RC (X : Cx) (op : CmpOp) (x y : S) (M : Mem) (Q : QS) : Prop := ∀ v w H, MemR X.K M H → RV X.K H x v → RV X.K H y w → ∃ r, OpR X (compareOp op) r ∧ r v w H (PostE X H Q)
def RU (X : Cx) (op : UnaryOp) (x : S) (M : Mem) (Q : QS) : Prop := ∀ v H, MemR X.K M H → RV X.K H x v → ∃ r, UnR X (unaryOp op) r ∧ r v H (PostE X H Q)
def RX (X : Cx) (x y : S) (M : Mem) (Q : QS) : Prop := ∀ v w H, MemR X.K M H → RV X.K H x v → RV X.K H y w → ∃ r, IxR X r ∧ r v w H (PostE X H Q)
def RB (X : Cx) (f : Value) (xs : List S) (M : Mem) (Q : QS) : Prop := ∀ vs H, MemR X.K M H → RVs X.K H xs vs → ∃ r, CallR X f r ∧ r vs H (PostE X H Q)
/-- any operation by its rules, weakened -/
def anyO (X : Cx) (f : Value → Value → Sem Value) : R2 := fun x y H R => ∃ (Q : VK) (r : R2), OpR X f r ∧ r x y H Q ∧ ∀ z H', Q z H' → R z H'
def anyU (X : Cx) (f : Value → Sem Value) : V → Hp → VK → Prop := fun x H R => ∃ (Q : VK) (r : V → Hp → VK → Prop), UnR X f r ∧ r x H Q ∧ ∀ z H', Q z H' → R z H'
def anyX (X : Cx) : R2 := fun x y H R => ∃ (Q : VK) (r : R2), IxR X r ∧ r x y H Q ∧ ∀ z H', Q z H' → R z H'
def anyC (X : Cx) (f : Value) : List V → Hp → VK → Prop := fun x H R => ∃ (Q : VK) (r : List V → Hp → VK → Prop), CallR X f r ∧ r x H Q ∧ ∀ z H', Q z H' → R z H'
theorem ep_le {pins : List (Addr × Obj)} {σ : L2.St} {Q R : VK} (k : ∀ z H', Q z H' → R z H') {u : Value} {s : Shared} (h : EP X pins σ Q u s) : EP X pins σ R u s := by
  obtain ⟨v, H', I, r, q⟩ := h
  exact ⟨v, H', I, r, k _ _ q⟩
theorem opr_any {f : Value → Value → Sem Value} : OpR X f (anyO X f) := by
  intro pins s σ H x y v u R I rx ry ⟨Q, r, h, q, k⟩
  exact thn (h pins s σ H x y v u Q I rx ry q) fun _ _ z => ep_le k z
theorem unr_any {f : Value → Sem Value} : UnR X f (anyU X f) := by
  intro pins s σ H x v R I rx ⟨Q, r, h, q, k⟩
  exact thn (h pins s σ H x v Q I rx q) fun _ _ z => ep_le k z
theorem ixr_any : IxR X (anyX X) := by
  intro va sl pins s σ H x y v u R I rx ry ⟨Q, r, h, q, k⟩ hs
  exact thn (h va sl pins s σ H x y v u Q I rx ry q hs) fun _ _ z => ep_le k z
theorem clr_any {f : Value} : CallR X f (anyC X f) := by
  intro pins s σ H xs us R I rx ⟨Q, r, h, q, k⟩
  exact thn (h pins s σ H xs us Q I rx q) fun _ _ z => ep_le k z
theorem se_bin {op : Operator} (h : SE X G a env M fun x M1 => SE X G b env M1 fun y M2 => RO X op x y M2 Q) : SE X G (.BinOp a op b pos) env M Q := fun σ H R =>
  ⟨_, pe_op opr_any pe_S pe_S, tS_go R h fun x M1 v H1 k1 rv R1 q1 => tS_go R1 q1 fun y M2 w H2 k2 rw R2 q2 => by
    obtain ⟨r, hr, q⟩ := q2 v w H2 R2.mem (rv.up k2) rw
    exact ⟨_, r, hr, q, fun z H' p => p.back (k1.trans k2)⟩⟩
theorem se_cmp {op : CmpOp} (h : SE X G a env M fun x M1 => SE X G b env M1 fun y M2 => RC X op x y M2 Q) (hm : behindInMarks op b = false := by first | exact nomark _ | rfl) : SE X G (.Compare a [op] [b] pos) env M Q := fun σ H R =>
  ⟨_, pe_cmpR opr_any pe_S pe_S hm, tS_go R h fun x M1 v H1 k1 rv R1 q1 => tS_go R1 q1 fun y M2 w H2 k2 rw R2 q2 => by
    obtain ⟨r, hr, q⟩ := q2 v w H2 R2.mem (rv.up k2) rw
    exact ⟨_, r, hr, q, fun z H' p => p.back (k1.trans k2)⟩⟩
/-- what a test wants of a truth value -/
def QB (Q : Bool → Mem → Prop) : QS := fun s M => ∃ k, s = .bl k ∧ Q k M
theorem QB.mk {Q : Bool → Mem → Prop} {k : Bool} {M : Mem} (h : Q k M) : QB Q (.bl k) M := ⟨k, rfl, h⟩
theorem QB.post {H H0 : Hp} {Q : Bool → Mem → Prop} {v : V} {H' : Hp} (k0 : Keep X.K H0 H) (h : PostE X H (QB Q) v H') : ∃ k, v = .bl k ∧ PostT X H0 Q k H' := by
  obtain ⟨s, M, a, b, c, k, rfl, q⟩ := h
  cases b
  exact ⟨k, rfl, M, k0.trans a, c, q⟩
theorem st_cmp {op : CmpOp} {Q : Bool → Mem → Prop} (h : SE X G a env M fun x M1 => SE X G b env M1 fun y M2 => RC X op x y M2 (QB Q)) (hm : behindInMarks op b = false := by first | exact nomark _ | rfl) : ST X G (.Compare a [op] [b] pos) env M Q := fun σ H R =>
  ⟨_, pt_cmpR opr_any pe_S pe_S hm, tS_go R h fun x M1 v H1 k1 rv R1 q1 => tS_go R1 q1 fun y M2 w H2 k2 rw R2 q2 => by
    obtain ⟨r, hr, q⟩ := q2 v w H2 R2.mem (rv.up k2) rw
    exact ⟨_, r, hr, q, fun z H' p => QB.post (k1.trans k2) p⟩⟩
theorem st_val {Q : Bool → Mem → Prop} (h : SE X G e env M (QB Q)) (he : ∀ whole, isTrue e X.env whole = (do let v ← whole; standAt e.pos; holding [v] (truthy v)) := by intro _; rfl) : ST X G e env M Q := fun σ H R =>
  ⟨_, pt_val pe_S he, env, M, _, R, h, fun v H' p => QB.post Keep.refl p⟩
theorem se_un {op : UnaryOp} (h : SE X G a env M fun x M1 => RU X op x M1 Q) : SE X G (.UnaryOp op a pos) env M Q := fun σ H R =>
  ⟨_, pe_un unr_any pe_S, tS_go R h fun x M1 v H1 k1 rv R1 q1 => by
    obtain ⟨r, hr, q⟩ := q1 v H1 R1.mem rv
    exact ⟨_, r, hr, q, fun z H' p => p.back k1⟩⟩
theorem se_ix (h : SE X G a env M fun x M1 => SE X G b env M1 fun y M2 => RX X x y M2 Q) (hs : PlainIx b := by exact fun _ _ => rfl) : SE X G (.Subscript a b pos) env M Q := fun σ H R =>
  ⟨_, pe_ix ixr_any pe_S pe_S hs, tS_go R h fun x M1 v H1 k1 rv R1 q1 => tS_go R1 q1 fun y M2 w H2 k2 rw R2 q2 => by
    obtain ⟨r, hr, q⟩ := q2 v w H2 R2.mem (rv.up k2) rw
    exact ⟨_, r, hr, q, fun z H' p => p.back (k1.trans k2)⟩⟩
/-! ### arguments, displays -/
theorem sa_nil {Q : List S → Mem → Prop} (q : Q [] M) : SA X G [] env M Q := fun σ H R => ⟨_, pa_nil, [], M, Keep.refl, .nil, R.mem, q⟩
theorem sa_cons {Q : List S → Mem → Prop} (h : SE X G e env M fun x M1 => SA X G es env M1 fun xs M2 => Q (x :: xs) M2) (hs : starEach (e :: es) X.env = (false, eval e X.env) :: starEach es X.env := by rfl) : SA X G (e :: es) env M Q := fun σ H R =>
  ⟨_, pa_cons (te := tS X G e) pe_S pa_S hs, tS_go R h fun x M1 v H1 k1 rv R1 q1 => tSA_go R1 q1 fun xs M2 vs H2 k2 rvs R2 q2 => ⟨x :: xs, M2, k1.trans k2, .cons (rv.up k2) rvs, R2.mem, q2⟩⟩
theorem se_tup {x1} (h : SA X G es env M fun xs M1 => xs.length ≤ sizeLine ∧ Q (.tup xs) M1) : SE X G (.Tuple es x1 pos) env M Q := fun σ H R =>
  ⟨_, pe_tup pa_S, tSA_go R h fun xs M1 vs H1 k1 rvs R1 ⟨hl, q⟩ => ⟨by rw [← rvs.length]; exact hl, fun p hp =>
    ⟨.tup xs, M1, k1.trans (keep_new hp), .tup (.inl upd_same) (rvs.up (keep_new hp)), R1.mem.skip hp, q⟩⟩⟩
theorem put_lst {H : Hp} {p : Addr} {xs : List S} {vs : List V} (m : MemR X.K M H) (hp : H p = none) (rvs : RVs X.K H xs vs) : MemR X.K (updM M p (.lst xs)) (upd H p (.lst vs)) := m.put (keep_new hp) ⟨vs, upd_same, rvs.up (keep_new hp)⟩
theorem se_lst (h : SA X G es env M fun xs M1 => xs.length ≤ sizeLine ∧ ∀ p, M1 p = none → Q (.ptr p) (updM M1 p (.lst xs))) : SE X G (.List es pos) env M Q := fun σ H R =>
  ⟨_, pe_lst pa_S, tSA_go R h fun xs M1 vs H1 k1 rvs R1 ⟨hl, q⟩ => ⟨by rw [← rvs.length]; exact hl, fun p hp =>
    ⟨.ptr p, _, k1.trans (keep_new hp), .ptr p, put_lst R1.mem hp rvs, q p (R1.mem.free hp)⟩⟩⟩
/-! ### and, or, not, if -/
theorem st_of {Q : Bool → Mem → Prop} (h : SW X G e env M Q) : ST X G e env M Q := fun σ H R => by
  obtain ⟨t, p, q⟩ := h σ H R
  exact ⟨t, p.pt, q⟩
theorem sw_and1 {Q : Bool → Mem → Prop} (h : ST X G a env M Q) : SW X G (.BoolOp .And [a] pos) env M Q := fun σ H R => by
  obtain ⟨t, p, q⟩ := h σ H R
  exact ⟨t, pw_and1 p, q⟩
theorem sw_or1 {Q : Bool → Mem → Prop} (h : ST X G a env M Q) : SW X G (.BoolOp .Or [a] pos) env M Q := fun σ H R => by
  obtain ⟨t, p, q⟩ := h σ H R
  exact ⟨t, pw_or1 p, q⟩
theorem sw_and {Q : Bool → Mem → Prop} (h : ST X G a env M fun k M1 => (k = true → SW X G (.BoolOp .And (b :: es) pos) env M1 Q) ∧ (k = false → Q false M1)) : SW X G (.BoolOp .And (a :: b :: es) pos) env M Q := fun σ H R =>
  ⟨_, pw_and (tA := tST X G a) pt_S pw_S, tST_go R h fun k M1 H1 k1 R1 q => by
    cases k with
    | true => exact iteT (tSW_go R1 (q.1 rfl) fun k2 M2 H2 k2' R2 q2 => ⟨M2, k1.trans k2', R2.mem, q2⟩)
    | false => exact iteF ⟨M1, k1, R1.mem, q.2 rfl⟩⟩
theorem sw_or {Q : Bool → Mem → Prop} (h : ST X G a env M fun k M1 => (k = true → Q true M1) ∧ (k = false → SW X G (.BoolOp .Or (b :: es) pos) env M1 Q)) : SW X G (.BoolOp .Or (a :: b :: es) pos) env M Q := fun σ H R =>
  ⟨_, pw_or (tA := tST X G a) pt_S pw_S, tST_go R h fun k M1 H1 k1 R1 q => by
    cases k with
    | true => exact iteT ⟨M1, k1, R1.mem, q.1 rfl⟩
    | false => exact iteF (tSW_go R1 (q.2 rfl) fun k2 M2 H2 k2' R2 q2 => ⟨M2, k1.trans k2', R2.mem, q2⟩)⟩
theorem st_not {Q : Bool → Mem → Prop} (h : ST X G a env M fun k M1 => Q (!k) M1) : ST X G (.UnaryOp .Not a pos) env M Q := fun σ H R =>
  ⟨_, pt_not pt_S, tST_go R h fun k M1 H1 k1 R1 q => ⟨M1, k1, R1.mem, q⟩⟩
theorem se_one {op} (h : SE X G a env M Q) : SE X G (.BoolOp op [a] pos) env M Q := fun σ H R => by
  obtain ⟨t, p, q⟩ := h σ H R
  exact ⟨t, pe_one p, q⟩
theorem se_and (h : SE X G a env M fun x M1 => ∃ k, x = .bl k ∧ (k = true → SE X G (.BoolOp .And (b :: es) pos) env M1 Q) ∧ (k = false → Q (.bl false) M1)) : SE X G (.BoolOp .And (a :: b :: es) pos) env M Q := fun σ H R =>
  ⟨_, pe_and (ta := tS X G a) pe_S pe_S, tS_go R h fun x M1 v H1 k1 rv R1 ⟨k, e, q⟩ => by
    subst e
    cases rv
    refine ⟨k, rfl, ?_⟩
    cases k with
    | true => exact iteT (tS_go R1 (q.1 rfl) fun x2 M2 v2 H2 k2 rv2 R2 q2 => ⟨x2, M2, k1.trans k2, rv2, R2.mem, q2⟩)
    | false => exact iteF ⟨.bl false, M1, k1, .bl _, R1.mem, q.2 rfl⟩⟩
theorem se_or (h : SE X G a env M fun x M1 => ∃ k, x = .bl k ∧ (k = true → Q (.bl true) M1) ∧ (k = false → SE X G (.BoolOp .Or (b :: es) pos) env M1 Q)) : SE X G (.BoolOp .Or (a :: b :: es) pos) env M Q := fun σ H R =>
  ⟨_, pe_or (ta := tS X G a) pe_S pe_S, tS_go R h fun x M1 v H1 k1 rv R1 ⟨k, e, q⟩ => by
    subst e
    cases rv
    refine ⟨k, rfl, ?_⟩
    cases k with
    | true => exact iteT ⟨.bl true, M1, k1, .bl _, R1.mem, q.1 rfl⟩
    | false => exact iteF (tS_go R1 (q.2 rfl) fun x2 M2 v2 H2 k2 rv2 R2 q2 => ⟨x2, M2, k1.trans k2, rv2, R2.mem, q2⟩)⟩
theorem se_not (h : SE X G a env M fun x M1 => ∃ k, x = .bl k ∧ Q (.bl (!k)) M1) : SE X G (.UnaryOp .Not a pos) env M Q := fun σ H R =>
  ⟨_, pe_not (ta := tS X G a) pe_S, tS_go R h fun x M1 v H1 k1 rv R1 ⟨k, e, q⟩ => by
    subst e
    cases rv
    exact ⟨k, rfl, .bl (!k), M1, k1, .bl _, R1.mem, q⟩⟩
theorem se_if (h : ST X G c env M fun k M1 => (k = true → SE X G a env M1 Q) ∧ (k = false → SE X G b env M1 Q)) : SE X G (.IfExp c a b pos) env M Q := fun σ H R =>
  ⟨_, pe_ifExp (tA := tST X G c) pt_S pe_S pe_S, tST_go R h fun k M1 H1 k1 R1 q => by
    cases k with
    | true => exact iteT (tS_go R1 (q.1 rfl) fun x2 M2 v2 H2 k2 rv2 R2 q2 => ⟨x2, M2, k1.trans k2, rv2, R2.mem, q2⟩)
    | false => exact iteF (tS_go R1 (q.2 rfl) fun x2 M2 v2 H2 k2 rv2 R2 q2 => ⟨x2, M2, k1.trans k2, rv2, R2.mem, q2⟩)⟩
/-! ### a built-in by its name -/
theorem se_callB {x : Str} {id : String} {p : Pos} (hg : Gl X x) (hm : X.mg x = none) (hv : bootBuiltins x = some (.builtin id)) (h : SA X G (e :: es) env M fun xs M1 => RB X (.builtin id) xs M1 Q) (hn : x ≠ "__name__" := by decide) (hdb : (x == ("__debug__" : Str)) = false := by decide)
    (he : starEach (e :: es) X.env = (false, eval e X.env) :: starEach es X.env := by rfl) (hpl : (backTo pos (starEach es X.env)).any (·.1) = false := by rfl) : SE X G (.Call (.Name x p) (e :: es) [] pos) env M Q := fun σ H R =>
  ⟨_, pe_callB clr_any hg hm hv pa_S hn hdb he hpl, tSA_go R h fun xs M1 vs H1 k1 rvs R1 q => by
    obtain ⟨r, hr, q⟩ := q vs H1 R1.mem rvs
    exact ⟨_, r, hr, q, fun z H' p => p.back k1⟩⟩
theorem se_callT {x : Str} {T : String} {p : Pos} (hg : Gl X x) (hm : X.mg x = none) (hv : bootBuiltins x = some (.type T)) (h : SA X G (e :: es) env M fun xs M1 => RB X (.type T) xs M1 Q) (hn : x ≠ "__name__" := by decide) (hdb : (x == ("__debug__" : Str)) = false := by decide)
    (he : starEach (e :: es) X.env = (false, eval e X.env) :: starEach es X.env := by rfl) (hpl : (backTo pos (starEach es X.env)).any (·.1) = false := by rfl) : SE X G (.Call (.Name x p) (e :: es) [] pos) env M Q := fun σ H R =>
  ⟨_, pe_callTy clr_any hg hm hv pa_S hn hdb he hpl, tSA_go R h fun xs M1 vs H1 k1 rvs R1 q => by
    obtain ⟨r, hr, q⟩ := q vs H1 R1.mem rvs
    exact ⟨_, r, hr, q, fun z H' p => p.back k1⟩⟩
end
end Sy

set_option Elab.async false
set_option linter.all false
set_option maxRecDepth 100000
/-! S3: statements, loops, calls of own defs. -/
namespace Sy
open PySem PySem.Spec PyProof.Rows L2
section
variable {X : Cx} {G : Hp} {env : Ev} {M : Mem} {D : SD} {a b c e : Expr} {es : List Expr} {pos : Pos} {st : Stmt} {sts : List Stmt}
/-! ### blocks and small statements -/
theorem DLe.dr {D D' : SD} (h1 : ∀ v M, D.nx v M → D'.nx v M) (h2 : ∀ v M, D.rt v M → D'.rt v M) (h3 : ∀ v M, D.bk v M → D'.bk v M) (h4 : ∀ v M, D.ct v M → D'.ct v M) : DLe (Dr X G D) (Dr X G D') :=
  ⟨fun σ H ⟨v, M, r, q⟩ => ⟨v, M, r, h1 _ _ q⟩, fun v H ⟨s, M, k, r, m, q⟩ => ⟨s, M, k, r, m, h2 _ _ q⟩, fun σ H ⟨v, M, r, q⟩ => ⟨v, M, r, h3 _ _ q⟩, fun σ H ⟨v, M, r, q⟩ => ⟨v, M, r, h4 _ _ q⟩⟩
theorem sb_nil (q : D.nx env M) : SSs X G [] env M D := fun G1 kG σ H R => ⟨_, pss_nil, env, M, R, q⟩
theorem sb_cons (h : SS X G st env M { D with nx := fun v M' => SSs X G sts v M' D }) : SSs X G (st :: sts) env M D := fun G1 kG σ H R =>
  ⟨_, pss_cons (t := tSS X G st) ps_S (u := tSSs X G sts) pss_S, env, M, _, G1, kG, R, h, ⟨fun σ' H' ⟨v, M', r, q⟩ => ⟨v, M', D, G1, kG, r, q, DLe.refl⟩, fun _ _ q => q, fun _ _ q => q, fun _ _ q => q⟩⟩
theorem sb_one (h : SS X G st env M D) : SSs X G [st] env M D := fun G1 kG σ H R => by
  obtain ⟨t, p, q⟩ := h G1 kG σ H R
  exact ⟨t, pss_one p, q⟩
/-- a statement by a stronger end -/
theorem ss_le {D' : SD} (h : SS X G st env M D') (h1 : ∀ v M, D'.nx v M → D.nx v M) (h2 : ∀ v M, D'.rt v M → D.rt v M) (h3 : ∀ v M, D'.bk v M → D.bk v M) (h4 : ∀ v M, D'.ct v M → D.ct v M) : SS X G st env M D := fun G1 kG σ H R =>
  ⟨_, ps_S, env, M, D', G1, kG, R, h, DLe.dr h1 h2 h3 h4⟩
theorem sb_le {D' : SD} (h : SSs X G sts env M D') (h1 : ∀ v M, D'.nx v M → D.nx v M) (h2 : ∀ v M, D'.rt v M → D.rt v M) (h3 : ∀ v M, D'.bk v M → D.bk v M) (h4 : ∀ v M, D'.ct v M → D.ct v M) : SSs X G sts env M D := fun G1 kG σ H R =>
  ⟨_, pss_S, env, M, D', G1, kG, R, h, DLe.dr h1 h2 h3 h4⟩
theorem ss_pass (q : D.nx env M) : SS X G (.Pass pos) env M D := fun G1 kG σ H R => ⟨_, ps_pass, env, M, R, q⟩
theorem ss_break (q : D.bk env M) : SS X G (.Break pos) env M D := fun G1 kG σ H R => ⟨_, ps_break, env, M, R, q⟩
theorem ss_cont (q : D.ct env M) : SS X G (.Continue pos) env M D := fun G1 kG σ H R => ⟨_, ps_continue, env, M, R, q⟩
theorem ss_expr (h : SE X G e env M fun _ M' => D.nx env M') (hs : swapsWith e none pos.line X.env = pure false := by rfl) : SS X G (.Expr e pos) env M D := fun G1 kG σ H R =>
  ⟨_, ps_expr pe_S hs, tS_at kG R h fun s M' v H' k rv R' q => ⟨env, M', R', q⟩⟩
theorem ss_ret (h : SE X G e env M D.rt) : SS X G (.Return (some e) pos) env M D := fun G1 kG σ H R =>
  ⟨_, ps_ret pe_S, tS_at kG R h fun s M' v H' k rv R' q => ⟨s, M', R'.base, rv, R'.mem, q⟩⟩
theorem ss_retN (h : D.rt .non M) : SS X G (.Return none pos) env M D := fun G1 kG σ H R => ⟨_, ps_retN, .non, M, R.base, .non, R.mem, h⟩
theorem ss_if {A B : List Stmt} (h : ST X G c env M fun k M1 => (k = true → SSs X G A env M1 D) ∧ (k = false → SSs X G B env M1 D)) : SS X G (.If c A B pos) env M D := fun G1 kG σ H R =>
  ⟨_, ps_if (tc := tST X G c) pt_S (t := tSSs X G A) pss_S (u := tSSs X G B) pss_S, tST_at kG R h fun k M1 H1 k1 R1 q => by
    cases k with
    | true => exact iteT ⟨env, M1, D, G1, kG, R1, q.1 rfl, DLe.refl⟩
    | false => exact iteF ⟨env, M1, D, G1, kG, R1, q.2 rfl, DLe.refl⟩⟩
/-! ### targets -/
def DnK (X : Cx) (G H : Hp) (n : Ev → Mem → Prop) : L2.St → Hp → Prop := fun σ' H' => Keep X.K H H' ∧ Dn X G n σ' H'
def SG (X : Cx) (G : Hp) (tg : Expr) (s : S) (env : Ev) (M : Mem) (n : Ev → Mem → Prop) : Prop := ∀ G1, Keep X.K G G1 → ∀ v σ H, Rel X.K G1 env M σ H → RV X.K H s v → ∃ g, PG X tg g ∧ g v σ H (DnK X G1 H n)
def SGs (X : Cx) (G : Hp) (tg : List Expr) (s : List S) (env : Ev) (M : Mem) (n : Ev → Mem → Prop) : Prop := ∀ G1, Keep X.K G G1 → ∀ v σ H, Rel X.K G1 env M σ H → RVs X.K H s v → ∃ g, PGs X tg g ∧ g v σ H (DnK X G1 H n)
def tSG (X : Cx) (G : Hp) (tg : Expr) : TG := fun v σ H R => ∃ s env M n G1, Keep X.K G G1 ∧ Rel X.K G1 env M σ H ∧ RV X.K H s v ∧ SG X G tg s env M n ∧ ∀ σ' H', DnK X G1 H n σ' H' → R σ' H'
def tSGs (X : Cx) (G : Hp) (tg : List Expr) : TGs := fun v σ H R => ∃ s env M n G1, Keep X.K G G1 ∧ Rel X.K G1 env M σ H ∧ RVs X.K H s v ∧ SGs X G tg s env M n ∧ ∀ σ' H', DnK X G1 H n σ' H' → R σ' H'
theorem pg_S {tg : Expr} : PG X tg (tSG X G tg) := ⟨fun pins s σ H v u R I rv h => by
  obtain ⟨s, env, M, n, G1, kG, r, hv, hs, k⟩ := h
  obtain ⟨g, p, hg⟩ := hs G1 kG v σ H r hv
  exact thn (p.run pins _ σ H v u _ I rv hg) fun _ s1 ⟨σ', H', I', q⟩ => ⟨σ', H', I', k _ _ q⟩⟩
theorem pgs_S {tg : List Expr} : PGs X tg (tSGs X G tg) := ⟨fun pins s σ H v u R I rv h => by
  obtain ⟨s, env, M, n, G1, kG, r, hv, hs, k⟩ := h
  obtain ⟨g, p, hg⟩ := hs G1 kG v σ H r hv
  exact thn (p.run pins _ σ H v u _ I rv hg) fun _ s1 ⟨σ', H', I', q⟩ => ⟨σ', H', I', k _ _ q⟩⟩
variable {n : Ev → Mem → Prop} {s : S} {ss : List S}
theorem sg_name {i : Nat} {x : Str} (q : n (env.set i (some s)) M) (hN : X.N.Nodup) (hi : X.N[i]? = some x) (hx : Loc X.env.scope x) (hf : X.fn x = true ∨ X.env.scope.names.lookup x = some .local := by first | exact .inl rfl | exact .inr rfl | assumption) : SG X G (.Name x pos) s env M n := fun G1 kG v σ H R hv =>
  ⟨_, pg_name hN hi hx hf, Keep.refl, env.set i (some s), M, R.set hv i, q⟩
theorem sgs_nil (q : n env M) : SGs X G [] [] env M n := fun G1 kG v σ H R hv => by
  cases hv
  exact ⟨_, pgs_nil, rfl, Keep.refl, env, M, R, q⟩
theorem sgs_cons (h : SG X G e s env M fun env' M' => SGs X G es ss env' M' n) (hs : (assignEach (e :: es) X.env).map (·.2) = assign e X.env :: (assignEach es X.env).map (·.2) := by rfl) : SGs X G (e :: es) (s :: ss) env M n := fun G1 kG v σ H R hv => by
  cases hv with
  | cons h1 h2 =>
    exact ⟨_, pgs_cons (pg_S (G := G)) (pgs_S (G := G)) hs, _, _, rfl, s, env, M, _, G1, kG, R, h1, h, fun σ' H' ⟨k, env', M', R', q⟩ => ⟨ss, env', M', n, G1, kG, R', h2.up k, q, fun σ2 H2 ⟨k2, d⟩ => ⟨k.trans k2, d⟩⟩⟩
theorem sg_tup {kk : Nat} (h : SGs X G es ss env M n) (hc : X.calm = true := by rfl) (hn : (assignEach es X.env).length = ss.length := by rfl) (hst : (assignEach es X.env).findIdx? (·.1) = none := by rfl) : SG X G (.Tuple es kk pos) (.tup ss) env M n := fun G1 kG v σ H R hv => by
  cases hv with
  | tup h1 h2 =>
    obtain ⟨g, p, q⟩ := h G1 kG _ σ H R h2
    exact ⟨_, pg_tup hc p hn hst, _, _, rfl, h1.sq, h2.length.symm, q⟩
/-- target = e -/
theorem ss_asg {tg : Expr} (h : SE X G e env M fun s M' => SG X G tg s env M' D.nx) (hs : swapsWithSole [tg] e pos.line X.env = pure false := by rfl) (hw : swappedStores [tg] e X.env = pure none := by rfl)
    (h1 : (assignEach [tg] X.env).map (·.2) = [assign tg X.env] := by rfl) : SS X G (.Assign [tg] e pos) env M D := fun G1 kG σ H R =>
  ⟨_, ps_asg pe_S (pg_S (G := G)) hs hw h1, tS_at kG R h fun s M' v H' k rv R' q => ⟨s, env, M', _, G1, kG, R', rv, q, fun _ _ z => z.2⟩⟩
theorem ss_set {i : Nat} {x : Str} {pos' : Pos} (h : SE X G e env M fun s M' => D.nx (env.set i (some s)) M') (hN : X.N.Nodup) (hi : X.N[i]? = some x) (hx : Loc X.env.scope x) (hs : swapsWith e (some (.Name x pos')) pos.line X.env = pure false := by rfl)
    (hf : X.fn x = true ∨ X.env.scope.names.lookup x = some .local := by first | exact .inl rfl | exact .inr rfl | assumption) : SS X G (.Assign [.Name x pos'] e pos) env M D := fun G1 kG σ H R =>
  ⟨_, ps_set hN hi hx pe_S hs hf, tS_at kG R h fun s M' v H' k rv R' q => ⟨env.set i (some s), M', R'.set rv i, q⟩⟩
/-- a, b = e1, e2, local names -/
theorem ss_par {i j : Nat} {x y : Str} {px py pt : Pos} {kt k2 pt2} (h : SA X G [a, b] env M fun vs M' => ∃ v w, vs = [v, w] ∧ D.nx ((env.set i (some v)).set j (some w)) M') (hN : X.N.Nodup) (hi : X.N[i]? = some x) (hj : X.N[j]? = some y) (hij : i ≠ j)
    (hx : X.env.scope.names.lookup x = some .local) (hy : X.env.scope.names.lookup y = some .local) (hw : swappedStores [.Tuple [.Name x px, .Name y py] kt pt] (.Tuple [a, b] k2 pt2) X.env = pure (some [x, y])) (hc : X.calm = true := by rfl)
    (hs : swapsWithSole [.Tuple [.Name x px, .Name y py] kt pt] (.Tuple [a, b] k2 pt2) pos.line X.env = pure false := by rfl) : SS X G (.Assign [.Tuple [.Name x px, .Name y py] kt pt] (.Tuple [a, b] k2 pt2) pos) env M D := fun G1 kG σ H R =>
  ⟨_, ps_par hc hN hi hj hij hx hy pa_S hw hs, tSA_at kG R h fun ss M' vs H' k rvs R' ⟨v, w, e, q⟩ => by
    subst e
    cases rvs with
    | cons r1 t =>
      cases t with
      | cons r2 t => cases t; exact ⟨_, _, rfl, _, M', (R'.set r1 i).set r2 j, q⟩⟩
/-! ### what is walked -/
/-- an iterator J that hands out xs as long as Gd holds of the store -/
structure Gives (K : PySem.W.Frag) (J : It) (H1 : Hp) (xs : List S) (Gd : Mem → Prop) : Prop where
  go : ∀ i M' H', MemR K M' H' → Keep K H1 H' → Gd M' → i < xs.length → J.go i H'
  yld : ∀ i M' H' v H'', MemR K M' H' → Keep K H1 H' → Gd M' → i < xs.length → J.yld i H' v H'' → ∃ s, xs[i]? = some s ∧ RV K H'' s v ∧ Keep K H' H'' ∧ MemR K M' H''
  stop : ∀ M' H', MemR K M' H' → Keep K H1 H' → Gd M' → J.stop xs.length H'
def PostI (X : Cx) (H : Hp) (Q : List S → (Mem → Prop) → Mem → Prop) : It → Hp → Prop := fun J H1 => ∃ xs Gd M1, Keep X.K H H1 ∧ MemR X.K M1 H1 ∧ Gives X.K J H1 xs Gd ∧ Q xs Gd M1
def SI (X : Cx) (G : Hp) (tg iter : Expr) (env : Ev) (M : Mem) (Q : List S → (Mem → Prop) → Mem → Prop) : Prop := ∀ σ H, Rel X.K G env M σ H → ∃ wi, PI X tg iter wi ∧ wi σ H (PostI X H Q)
def tSI (X : Cx) (G : Hp) (tg iter : Expr) : TI := fun σ H R => ∃ env M Q, Rel X.K G env M σ H ∧ SI X G tg iter env M Q ∧ ∀ J H', PostI X H Q J H' → R J H'
theorem pi_S {tg iter : Expr} : PI X tg iter (tSI X G tg iter) := ⟨fun pins s σ H R I h => by
  obtain ⟨env, M, Q, r, hs, k⟩ := h
  obtain ⟨t, p, ht⟩ := hs σ H r
  exact thn (p.run pins s σ H _ I ht) fun v s1 h1 => thn h1 fun itv s2 ⟨it, fp, tn, J, H', e, I', T, st, f, q⟩ => ⟨it, fp, tn, J, H', e, I', T, st, f, k _ _ q⟩⟩
theorem si_tup {tg : Expr} {Q : List S → (Mem → Prop) → Mem → Prop} (h : SE X G e env M fun s M1 => ∃ xs, s = .tup xs ∧ Q xs (fun _ => True) M1) : SI X G tg e env M Q := fun σ H R =>
  ⟨_, pi_tup pe_S, tS_go R h fun s M1 v H1 k rv R1 ⟨xs, e, q⟩ => by
    subst e
    cases rv with
    | @tup a vs _ h1 h2 =>
      refine ⟨a, rfl, ⟨_, h1.sq⟩, xs, _, M1, k, R1.mem, ⟨fun i M' H' m k' _ hi => ?_, fun i M' H' v H'' m k' _ hi y => ?_, fun M' H' m k' _ => ?_⟩, q⟩
      · have hi' : i < vs.length := by rw [← h2.length]; exact hi
        exact ⟨vs, vs[i], (k'.tup _ _ h1).sq, by simp [hi']⟩
      · obtain ⟨rfl, y⟩ := y
        obtain ⟨s, e1, r1⟩ := h2.getV (y _ (k'.tup _ _ h1).sq)
        exact ⟨s, e1, r1.up k', Keep.refl, m⟩
      · exact ⟨vs, (k'.tup _ _ h1).sq, by rw [h2.length]; exact Nat.le_refl _⟩⟩
theorem si_lst {tg : Expr} {Q : List S → (Mem → Prop) → Mem → Prop} (h : SE X G e env M fun s M1 => ∃ p xs, s = .ptr p ∧ M1 p = some (.lst xs) ∧ Q xs (fun M' => M' p = some (.lst xs)) M1) : SI X G tg e env M Q := fun σ H R =>
  ⟨_, pi_list pe_S, tS_go R h fun s M1 v H1 k rv R1 ⟨p, xs, e, hp, q⟩ => by
    subst e
    cases rv
    obtain ⟨vs0, h10, _⟩ := R1.mem p _ hp
    refine ⟨p, rfl, ⟨_, SqL.of h10⟩, xs, _, M1, k, R1.mem, ⟨fun i M' H' m k' g hi => ?_, fun i M' H' v H'' m k' g hi y => ?_, fun M' H' m k' g => ?_⟩, q⟩
    · obtain ⟨vs, h1, h2⟩ := m p _ g
      have hi' : i < vs.length := by rw [← h2.length]; exact hi
      exact ⟨vs, vs[i], SqL.of h1, by simp [hi']⟩
    · obtain ⟨vs, h1, h2⟩ := m p _ g
      obtain ⟨rfl, y⟩ := y
      obtain ⟨s, e1, r1⟩ := h2.getV (y _ (SqL.of h1))
      exact ⟨s, e1, r1, Keep.refl, m⟩
    · obtain ⟨vs, h1, h2⟩ := m p _ g
      exact ⟨vs, SqL.of h1, by rw [h2.length]; exact Nat.le_refl _⟩⟩
theorem si_rdl {tg : Expr} {Q : List S → (Mem → Prop) → Mem → Prop} (h : SE X G e env M fun s M1 => ∃ xs, s = .rdl xs ∧ Q xs (fun _ => True) M1) : SI X G tg e env M Q := fun σ H R =>
  ⟨_, pi_list pe_S, tS_go R h fun s M1 v H1 k rv R1 ⟨xs, e, q⟩ => by
    subst e
    cases rv with
    | @rdl a vs _ h1 h2 =>
      refine ⟨a, rfl, ⟨_, h1.sq⟩, xs, _, M1, k, R1.mem, ⟨fun i M' H' m k' _ hi => ?_, fun i M' H' v H'' m k' _ hi y => ?_, fun M' H' m k' _ => ?_⟩, q⟩
      · have hi' : i < vs.length := by rw [← h2.length]; exact hi
        exact ⟨vs, vs[i], (k'.fzl _ _ h1).sq, by simp [hi']⟩
      · obtain ⟨rfl, y⟩ := y
        obtain ⟨s, e1, r1⟩ := h2.getV (y _ (k'.fzl _ _ h1).sq)
        exact ⟨s, e1, r1.up k', Keep.refl, m⟩
      · exact ⟨vs, (k'.fzl _ _ h1).sq, by rw [h2.length]; exact Nat.le_refl _⟩⟩
/-- lo, lo + 1, .. -/
def rgS (lo : Int) (n : Nat) : List S := (List.range n).map fun (k : Nat) => S.int (lo + (k : Int))
theorem rgS_len {lo : Int} {n : Nat} : (rgS lo n).length = n := by unfold rgS; simp
theorem rgS_get {lo : Int} {n i : Nat} {s : S} (h : (rgS lo n)[i]? = some s) : i < n ∧ s = .int (lo + i) := by
  unfold rgS at h
  rw [List.getElem?_map] at h
  by_cases hi : i < n
  · rw [List.getElem?_range hi] at h
    exact ⟨hi, (Option.some.inj h).symm⟩
  · rw [List.getElem?_eq_none (by simpa using hi)] at h
    cases h
theorem rgS_at {lo : Int} {n i : Nat} (h : i < n) : (rgS lo n)[i]? = some (.int (lo + i)) := by
  unfold rgS
  rw [List.getElem?_map, List.getElem?_range h]
  rfl
theorem gives_rg {K : PySem.W.Frag} {H1 : Hp} {lo : Int} {n : Nat} : Gives K (Itr lo n) H1 (rgS lo n) (fun _ => True) :=
  ⟨fun i M' H' m k' _ hi => (by rw [rgS_len] at hi; exact hi), fun i M' H' v H'' m k' _ hi ⟨e1, e2⟩ => by
    rw [rgS_len] at hi
    subst e1 e2
    exact ⟨_, rgS_at hi, .int _, Keep.refl, m⟩, fun M' H' m k' _ => by rw [rgS_len]; exact Nat.le_refl _⟩
theorem si_range1 {tg : Expr} {p : Pos} {Q : List S → (Mem → Prop) → Mem → Prop} (hg : Gl X "range") (hm : X.mg "range" = none) (h : SE X G a env M fun s M1 => ∃ j : Int, s = .int j ∧ j < 2 ^ 62 ∧ -(2 ^ 62) ≤ j ∧ Q (rgS 0 j.toNat) (fun _ => True) M1)
    (hs : starEach [a] X.env = [(false, eval a X.env)] := by rfl) : SI X G tg (.Call (.Name "range" p) [a] [] pos) env M Q := fun σ H R =>
  ⟨_, pi_range1 hg hm (pa_cons (te := tS X G a) pe_S pa_nil hs) hs, tS_go R h fun s M1 v H1 k rv R1 ⟨j, e, b1, b2, q⟩ => by
    subst e
    cases rv
    exact ⟨j, rfl, b2, b1, _, _, M1, k, R1.mem, gives_rg, q⟩⟩
theorem si_range2 {tg : Expr} {p : Pos} {Q : List S → (Mem → Prop) → Mem → Prop} (hg : Gl X "range") (hm : X.mg "range" = none) (h : SE X G a env M fun s M1 => SE X G b env M1 fun s2 M2 => ∃ i j : Int, s = .int i ∧ s2 = .int j ∧ (-(2 ^ 62) ≤ i ∧ i < 2 ^ 62 ∧ -(2 ^ 62) ≤ j ∧ j < 2 ^ 62) ∧ Q (rgS i (j - i).toNat) (fun _ => True) M2)
    (hs : starEach [a, b] X.env = [(false, eval a X.env), (false, eval b X.env)] := by rfl) (hs2 : starEach [b] X.env = [(false, eval b X.env)] := by rfl) : SI X G tg (.Call (.Name "range" p) [a, b] [] pos) env M Q := fun σ H R =>
  ⟨_, pi_range2 hg hm (pa_cons (te := tS X G a) pe_S (pa_cons (te := tS X G b) pe_S pa_nil hs2) (by rw [hs, hs2])) hs hs2, tS_go R h fun s M1 v H1 k rv R1 q1 => tS_go R1 q1 fun s2 M2 v2 H2 k2 rv2 R2 ⟨i, j, e1, e2, b1, q⟩ => by
    subst e1 e2
    cases rv
    cases rv2
    exact ⟨i, j, rfl, b1, _, _, M2, k.trans k2, R2.mem, gives_rg, q⟩⟩
/-- for -/
theorem ss_for {tg iter : Expr} {body : List Stmt} (h : SI X G tg iter env M fun xs Gd M1 => ∃ I : Nat → Ev → Mem → Prop, I 0 env M1 ∧ (∀ i v M', I i v M' → Gd M') ∧
      (∀ i x v M', xs[i]? = some x → I i v M' → SG X G tg x v M' fun v2 M2 => SSs X G body v2 M2 { nx := I (i + 1), ct := I (i + 1), bk := D.nx, rt := D.rt }) ∧ ∀ v M', I xs.length v M' → D.nx v M')
    (hp : PassesOwn (model X.prog X.w) X.A X.env X.xe) (hc : X.calm = true := by rfl) (hs : ∀ x, foldedSetIterable iter X.env x = pure x := by intro _; rfl) : SS X G (.For tg iter body [] pos) env M D := fun G1 kG σ H R => by
  refine ⟨_, ps_for hp hc (pi_S (G := G)) (pg_S (G := G)) (pss_S (G := G)) hs, env, M, _, R.weak kG, h, fun J H1 ⟨xs, Gd, M1, k1, m1, gv, I, i0, ig, turn, fin⟩ => ?_⟩
  have kG1 : Keep X.K G1 H1 := R.base.trans k1
  refine ⟨fun i m σ' H' => m = xs.length - i ∧ i ≤ xs.length ∧ ∃ v M', Rel X.K H1 v M' σ' H' ∧ I i v M', ⟨xs.length, rfl, Nat.zero_le _, env, M1, ⟨Keep.refl, R.env.up k1, m1⟩, i0⟩, ?_⟩
  rintro i m σ' H' ⟨rfl, hi, v, M', R', hI⟩
  by_cases hlt : i < xs.length
  · refine .inr ⟨gv.go i M' H' R'.mem R'.base (ig _ _ _ hI) hlt, fun σ2 H2 => ∃ v M', Rel X.K H1 v M' σ2 H2 ∧ I (i + 1) v M', fun σ2 H2 ⟨v2, M2, r2, q2⟩ => ⟨xs.length - (i + 1), by omega, rfl, hlt, v2, M2, r2, q2⟩, fun x H'' y => ?_⟩
    obtain ⟨s, e, rs, k2, m2⟩ := gv.yld i M' H' x H'' R'.mem R'.base (ig _ _ _ hI) hlt y
    refine ⟨s, v, M', _, H1, kG.trans kG1, R'.step k2 m2, rs, turn i s v M' e hI, fun σ2 H2 ⟨_, v2, M2, r2, q2⟩ => ?_⟩
    refine ⟨v2, M2, _, H1, kG.trans kG1, r2, q2, ⟨fun _ _ z => z, fun w H3 ⟨s, M3, k3, a, b, c⟩ => ⟨s, M3, kG1.trans k3, a, b, c⟩, fun σ3 H3 ⟨v3, M3, r3, q3⟩ => ⟨v3, M3, r3.weak kG1, q3⟩, fun _ _ z => z⟩⟩
  · have e : i = xs.length := by omega
    subst e
    exact .inl ⟨gv.stop M' H' R'.mem R'.base (ig _ _ _ hI), v, M', R'.weak kG1, fin v M' hI⟩
/-- while, with a measure -/
theorem ss_while {body : List Stmt} (I : Nat → Ev → Mem → Prop) (h0 : ∃ m, I m env M) (turn : ∀ m v M', I m v M' → ST X G c v M' fun k M1 => (k = true → SSs X G body v M1 { nx := fun v2 M2 => ∃ m', m' < m ∧ I m' v2 M2, ct := fun v2 M2 => ∃ m', m' < m ∧ I m' v2 M2, bk := D.nx, rt := D.rt }) ∧ (k = false → D.nx v M1))
    (hp : PassesOwn (model X.prog X.w) X.A X.env X.xe) : SS X G (.While c body [] pos) env M D := fun G1 kG σ H R => by
  refine ⟨_, ps_while hp (pt_S (G := G)) (pss_S (G := G)), fun m σ' H' => ∃ v M', Rel X.K G1 v M' σ' H' ∧ I m v M', ?_, fun m σ' H' ⟨v, M', R', hI⟩ => ?_⟩
  · obtain ⟨m, hm⟩ := h0
    exact ⟨m, env, M, R, hm⟩
  · refine tST_at kG R' (turn m v M' hI) fun k M1 H1 k1 R1 q => ?_
    cases k with
    | true =>
      refine iteT ⟨fun σ2 H2 => ∃ v M', Rel X.K G1 v M' σ2 H2 ∧ ∃ m', m' < m ∧ I m' v M', fun σ2 H2 ⟨v2, M2, r2, m', hm, q2⟩ => ⟨m', hm, v2, M2, r2, q2⟩, v, M1, _, G1, kG, R1, q.1 rfl, ⟨fun _ _ z => z, fun _ _ z => z, fun _ _ z => z, fun _ _ z => z⟩⟩
    | false => exact iteF ⟨v, M1, R1, q.2 rfl⟩
end
end Sy

set_option Elab.async false
set_option linter.all false
set_option maxRecDepth 100000
/-! S4: comprehensions; what operators and built-ins do with symbolic values. -/
namespace Sy
open PySem PySem.Spec PyProof.Rows L2
section
variable {X : Cx} {G : Hp} {env : Ev} {M : Mem} {D : SD} {Q : QS} {a b c e : Expr} {es : List Expr} {pos : Pos}
/-! ### comprehensions -/
def wipeE (env : Ev) : List Nat → Ev
  | [] => env
  | v :: vs => (wipeE env vs).set v none
theorem EnvR.wipe {K : PySem.W.Frag} {H : Hp} {es : Ev} {os : L2.St} (r : EnvR K H es os) : ∀ vs : List Nat, EnvR K H (wipeE es vs) (wipe os vs)
  | [] => r
  | v :: vs => (EnvR.wipe r vs).forget v
theorem Rel.wipe {K : PySem.W.Frag} {G : Hp} {env : Ev} {M : Mem} {σ : L2.St} {H : Hp} (r : Rel K G env M σ H) (vs : List Nat) : Rel K G (wipeE env vs) M (L2.wipe σ vs) H := ⟨r.base, r.env.wipe vs, r.mem⟩
theorem wipe_set {σ : L2.St} {v : V} : ∀ {vs : List Nat} {i : Nat}, i ∈ vs → wipe ((wipe σ vs).set i (some v)) vs = wipe σ vs := by
  have g : ∀ (vs : List Nat) (τ : L2.St) (i : Nat), i ∈ vs → wipe (τ.set i (some v)) vs = wipe τ vs := by
    intro vs
    induction vs with
    | nil => intro τ i h; cases h
    | cons j vs ih =>
      intro τ i h
      show (wipe (τ.set i (some v)) vs).set j none = (wipe τ vs).set j none
      by_cases hi : i ∈ vs
      · rw [ih τ i hi]
      · have e : i = j := by
          rcases List.mem_cons.mp h with h | h
          · exact h
          · exact absurd h hi
        subst e
        have q : ∀ (ws : List Nat) (τ : L2.St), i ∉ ws → wipe (τ.set i (some v)) ws = (wipe τ ws).set i (some v) := by
          intro ws
          induction ws with
          | nil => intro τ _; rfl
          | cons k ws ih2 =>
            intro τ h2
            have h3 := not_or.mp (fun z => h2 (List.mem_cons.mpr z))
            show (wipe (τ.set i (some v)) ws).set k none = ((wipe τ ws).set k none).set i (some v)
            rw [ih2 τ h3.2, List.set_comm _ _ h3.1]
        rw [q vs τ hi, List.set_set]
  have w2 : ∀ (vs : List Nat) (τ : L2.St), wipe (wipe τ vs) vs = wipe τ vs := by
    intro vs τ
    apply List.ext_getElem?
    intro k
    have key : ∀ (vs : List Nat) (τ : L2.St), (wipe τ vs)[k]? = if k ∈ vs ∧ k < τ.length then some none else τ[k]? := by
      intro vs
      induction vs with
      | nil => intro τ; show τ[k]? = _; simp
      | cons j vs ih =>
        intro τ
        show ((wipe τ vs).set j none)[k]? = _
        rw [List.getElem?_set]
        by_cases hj : j = k
        · subst hj
          rw [wipe_length]
          by_cases hl : j < τ.length <;> simp [hl]
        · rw [if_neg hj, ih]
          simp [Ne.symm hj]
    rw [key, key, wipe_length]
    split <;> rfl
  intro vs i h
  rw [g vs _ i h, w2]
def SEb (X : Cx) (G : Hp) (scope : Scope) (e : Expr) (env : Ev) (M : Mem) (Q : QS) : Prop := ∀ (s : Shared) (H : Hp) (C : Addr) (cl : List (Str × Addr)) (fp : List Addr), SE (X.blk s H scope (compEnvC scope cl C X.env) fp) G e env M Q
def STb (X : Cx) (G : Hp) (scope : Scope) (e : Expr) (env : Ev) (M : Mem) (Q : Bool → Mem → Prop) : Prop := ∀ (s : Shared) (H : Hp) (C : Addr) (cl : List (Str × Addr)) (fp : List Addr), ST (X.blk s H scope (compEnvC scope cl C X.env) fp) G e env M Q
def tSEb (X : Cx) (G : Hp) (scope : Scope) (e : Expr) : TE := fun σ H R => ∃ env M Q, Rel X.K G env M σ H ∧ SEb X G scope e env M Q ∧ ∀ v H', PostE X H Q v H' → R v H'
def tSTb (X : Cx) (G : Hp) (scope : Scope) (e : Expr) : TT := fun σ H R => ∃ env M Q, Rel X.K G env M σ H ∧ STb X G scope e env M Q ∧ ∀ v H', PostT X H Q v H' → R v H'
theorem pe_Sb {scope : Scope} {s : Shared} {H : Hp} {C : Addr} {cl : List (Str × Addr)} {fp : List Addr} : PE (X.blk s H scope (compEnvC scope cl C X.env) fp) e (tSEb X G scope e) := ⟨fun pins s1 σ H1 R I h => by
  obtain ⟨env, M, Q, r, hs, k⟩ := h
  exact (pe_S (X := X.blk s H scope (compEnvC scope cl C X.env) fp) (G := G)).run pins s1 σ H1 R I ⟨env, M, Q, r, hs s H C cl fp, k⟩⟩
theorem pt_Sb {scope : Scope} {s : Shared} {H : Hp} {C : Addr} {cl : List (Str × Addr)} {fp : List Addr} : PT (X.blk s H scope (compEnvC scope cl C X.env) fp) e (tSTb X G scope e) := ⟨fun pins s1 σ H1 R I h => by
  obtain ⟨env, M, Q, r, hs, k⟩ := h
  exact (pt_S (X := X.blk s H scope (compEnvC scope cl C X.env) fp) (G := G)).run pins s1 σ H1 R I ⟨env, M, Q, r, hs s H C cl fp, k⟩⟩
/-- what one turn of a comprehension keeps; I holds of the items so far and the store, the list at D within -/
structure LcI (D : Addr) (I : Nat → List S → Mem → Prop) (i : Nat) (M : Mem) : Prop where
  ex : ∃ acc, M D = some (.lst acc) ∧ I i acc M
def LcQ (D : Addr) (acc : List S) (n : List S → Mem → Prop) : QS := fun y M => M D = some (.lst acc) ∧ acc.length < sizeLine ∧ n (acc ++ [y]) (updM M D (.lst (acc ++ [y])))
theorem lcq_ok {H0 H : Hp} {D : Addr} {acc : List S} {n : List S → Mem → Prop} {v : V} {H' : Hp} (k0 : Keep X.K H0 H) (h : PostE X H (LcQ D acc n) v H') : ∃ vs, H' D = some (.lst vs) ∧ vs.length < sizeLine ∧ ∃ acc' M', MemR X.K M' (upd H' D (.lst (vs ++ [v]))) ∧ Keep X.K H0 (upd H' D (.lst (vs ++ [v]))) ∧ M' D = some (.lst acc') ∧ n acc' M' := by
  obtain ⟨s, M', k, rv, m, hD, hl, q⟩ := h
  obtain ⟨vs, h1, h2⟩ := m D _ hD
  have kk := keep_lst (K := X.K) (o := .lst (vs ++ [v])) h1
  exact ⟨vs, h1, by rw [← h2.length]; exact hl, _, _, m.put (u := .lst (acc ++ [s])) kk ⟨_, upd_same, (h2.append (.cons rv .nil)).up kk⟩, (k0.trans k).trans kk, updM_same, q⟩
/-- [elt for x in iter], x the name in slot i -/
theorem se_lc {elt iter : Expr} {scope : Scope} {own : List (Str × Nat)} {i : Nat} {x : Str} {px : Pos} (h : SI X G (.Name x px) iter env M fun xs Gd M1 => ∀ D, M1 D = none → ∃ I : Nat → List S → Mem → Prop, I 0 [] (updM M1 D (.lst [])) ∧ (∀ j acc M', M' D = some (.lst acc) → I j acc M' → Gd M') ∧
      (∀ j s acc M', xs[j]? = some s → M' D = some (.lst acc) → I j acc M' → SEb X G scope elt ((wipeE env (own.map (·.2))).set i (some s)) M' (LcQ D acc (I (j + 1)))) ∧ ∀ acc M', M' D = some (.lst acc) → I xs.length acc M' → Q (.ptr D) M')
    (hN : X.N.Nodup) (hi : X.N[i]? = some x) (hm : i ∈ own.map (·.2)) (ok : BlkOk X.N X.env.scope scope own) (hf : scope.names.lookup x = some .local) (hc : X.calm = true := by rfl) (hs : ∀ x, foldedSetIterable iter X.env x = pure x := by intro _; rfl) :
    SE X G (.ListComp elt [⟨.Name x px, iter, [], 0⟩] scope pos) env M Q := fun σ H R => by
  refine ⟨_, pe_lc (own := own) (tt := tYes) (te := tSEb X G scope elt) (g := gName i) hc hN (pi_S (G := G)) ok (fun s H C cl fp => pg_name (X := X.blk s H scope (compEnvC scope cl C X.env) fp) hN hi (.inl (PySem.lookup_relabel_local hf)) (.inr (PySem.lookup_relabel_local hf))) (fun _ _ _ _ _ => pts_nil) (fun _ _ _ _ _ => pe_Sb) hs, env, M, _, R, h, fun J H1 ⟨xs, Gd, M1, k1, m1, gv, q⟩ D hD => ?_⟩
  obtain ⟨I, i0, ig, turn, fin⟩ := q D (m1.free hD)
  refine ⟨fun j m H' => m = xs.length - j ∧ j ≤ xs.length ∧ ∃ acc M', MemR X.K M' H' ∧ Keep X.K H1 H' ∧ M' D = some (.lst acc) ∧ I j acc M', ⟨xs.length, rfl, Nat.zero_le _, [], _, put_lst m1 hD .nil, keep_new hD, updM_same, i0⟩, ?_⟩
  rintro j m H' ⟨rfl, hj, acc, M', m', k', hMD, hI⟩
  by_cases hlt : j < xs.length
  · refine .inr ⟨gv.go j M' H' m' k' (ig _ _ _ hMD hI) hlt, fun H2 => ∃ acc M', MemR X.K M' H2 ∧ Keep X.K H1 H2 ∧ M' D = some (.lst acc) ∧ I (j + 1) acc M', fun H2 z => ⟨xs.length - (j + 1), by omega, rfl, hlt, z⟩, fun v H'' y => ?_⟩
    obtain ⟨s, es, rs, k2, m2⟩ := gv.yld j M' H' v H'' m' k' (ig _ _ _ hMD hI) hlt y
    have kk := k1.trans (k'.trans k2)
    refine ⟨wipe_set hm, ?_⟩
    dsimp only [tYes]
    rw [if_pos rfl]
    refine ⟨_, M', _, ?_, turn j s acc M' es hMD hI, fun w H3 p => ?_⟩
    · exact (((R.step kk m2).wipe _).set rs i)
    · obtain ⟨vs, a1, a2, acc', M3, a3, a4, a5, a6⟩ := lcq_ok (k'.trans k2) p
      exact ⟨vs, a1, a2, acc', M3, a3, a4, a5, a6⟩
  · have e : j = xs.length := by omega
    subst e
    exact .inl ⟨gv.stop M' H' m' k' (ig _ _ _ hMD hI), .ptr D, M', k1.trans k', .ptr D, m', fin acc M' hMD hI⟩

/-! ### operators by values -/
theorem ro_addI {i j : Int} (q : Q (.int (i + j)) M) : RO X .Add (.int i) (.int j) M Q := fun v w H m r1 r2 => by
  cases r1; cases r2; exact ⟨_, op_add, i, j, rfl, rfl, pack (.int _) m q⟩
theorem ro_subI {i j : Int} (q : Q (.int (i - j)) M) : RO X .Sub (.int i) (.int j) M Q := fun v w H m r1 r2 => by
  cases r1; cases r2; exact ⟨_, op_sub, i, j, rfl, rfl, pack (.int _) m q⟩
theorem ro_mulI {i j : Int} (h : CMul i j) (q : Q (.int (i * j)) M) : RO X .Mult (.int i) (.int j) M Q := fun v w H m r1 r2 => by
  cases r1; cases r2; exact ⟨_, op_mul, i, j, rfl, rfl, h, pack (.int _) m q⟩
theorem ro_mulW {i j : Int} {a b : Nat} (ha : i.natAbs < 2 ^ a) (hb : j.natAbs < 2 ^ b) (h : a + b ≤ 134217728) (q : Q (.int (i * j)) M) : RO X .Mult (.int i) (.int j) M Q := fun v w H m r1 r2 => by
  cases r1; cases r2; exact ⟨_, op_mulX, i, j, rfl, rfl, mulx_ok ha hb h, pack (.int _) m q⟩
theorem ro_divI {i j : Int} {b : Nat} (h : 0 < j) (hb : j.natAbs < 2 ^ b) (h0 : 0 < b) (h9 : b ≤ 9000) (q : Q (.int (i / j)) M) : RO X .FloorDiv (.int i) (.int j) M Q := fun v w H m r1 r2 => by
  cases r1; cases r2; exact ⟨_, op_fdivW, i, j, rfl, rfl, wide_div h hb h0 h9, pack (.int _) m q⟩
theorem ro_modI {i j : Int} (h : 0 < j) (q : Q (.int (i % j)) M) : RO X .Mod (.int i) (.int j) M Q := fun v w H m r1 r2 => by
  cases r1; cases r2; exact ⟨_, op_mod, i, j, rfl, rfl, h, pack (.int _) m q⟩
/-- a power whose bits keep within the line -/
theorem op_powX : OpR X (binaryOp .Pow) (rI (fun i j => 0 ≤ j ∧ (Builtin.Int.intBits i : Int) * j ≤ 2 ^ 27) fun i j => .int (i ^ j.toNat)) := opI fun _ _ _ _ _ _ _ hc q => PyProof.Rows.pow_int hc.1 hc.2 q
theorem bits_of {i : Int} {a : Nat} (h : i.natAbs < 2 ^ a) (h0 : 0 < a) : Builtin.Int.intBits i ≤ a := by
  have x := PySem.Flt.log2_lt_of h0 h
  unfold Builtin.Int.intBits
  split <;> omega
theorem ro_powI {i : Int} {k a : Nat} (h : i.natAbs < 2 ^ a) (h0 : 0 < a) (hk : a * k ≤ 134217728) (q : Q (.int (i ^ k)) M) : RO X .Pow (.int i) (.int (k : Int)) M Q := fun v w H m r1 r2 => by
  cases r1; cases r2
  refine ⟨_, op_powX, i, k, rfl, rfl, ⟨by omega, ?_⟩, pack (.int _) m (by simpa using q)⟩
  have h1 := bits_of h h0
  have h2 : Builtin.Int.intBits i * k ≤ a * k := Nat.mul_le_mul_right k h1
  have h3 : ((Builtin.Int.intBits i * k : Nat) : Int) ≤ ((134217728 : Nat) : Int) := by omega
  rw [Int.natCast_mul] at h3
  exact h3
theorem ru_neg {i : Int} (q : Q (.int (-i)) M) : RU X .USub (.int i) M Q := fun v H m r1 => by
  cases r1; exact ⟨_, un_neg, i, rfl, pack (.int _) m q⟩
theorem ro_addS {x y : Str} (hl : x.length + y.length ≤ sizeLine) (q : Q (.str (x ++ y)) M) : RO X .Add (.str x) (.str y) M Q := fun v w H m r1 r2 => by
  cases r1; cases r2; exact ⟨_, op_add_str, x, y, rfl, rfl, hl, pack (.str _) m q⟩
/-- a list that is made anew at p -/
theorem new_lst {H : Hp} {p : Addr} {xs : List S} {vs : List V} (m : MemR X.K M H) (rvs : RVs X.K H xs vs) (hp : H p = none) (q : ∀ p, M p = none → Q (.ptr p) (updM M p (.lst xs))) : PostE X H Q (.ref p) (upd H p (.lst vs)) :=
  ⟨.ptr p, _, keep_new hp, .ptr p, put_lst m hp rvs, q p (m.free hp)⟩
theorem new_tup {H : Hp} {p : Addr} {xs : List S} {vs : List V} (m : MemR X.K M H) (rvs : RVs X.K H xs vs) (hp : H p = none) (q : Q (.tup xs) M) : PostE X H Q (.ref p) (upd H p (.tup vs)) :=
  ⟨.tup xs, M, keep_new hp, .tup (.inl upd_same) (rvs.up (keep_new hp)), m.skip hp, q⟩
theorem ro_catL {p r : Addr} {xs ys : List S} (hp : M p = some (.lst xs)) (hr : M r = some (.lst ys)) (hl : xs.length + ys.length ≤ sizeLine) (q : ∀ t, M t = none → Q (.ptr t) (updM M t (.lst (xs ++ ys)))) : RO X .Add (.ptr p) (.ptr r) M Q := fun v w H m r1 r2 => by
  cases r1; cases r2
  obtain ⟨vs, h1, h2⟩ := m p _ hp
  obtain ⟨ws, h3, h4⟩ := m r _ hr
  exact ⟨_, op_cat, p, r, vs, ws, rfl, rfl, h1, h3, by rw [← h2.length, ← h4.length]; exact hl, fun t ht => new_lst m (h2.append h4) ht q⟩
theorem ro_repL {p : Addr} {xs : List S} {k : Int} (hp : M p = some (.lst xs)) (h1 : -(2 ^ 63) ≤ k) (h2 : k < 2 ^ 63) (hl : xs.length * k.toNat ≤ sizeLine) (q : ∀ t, M t = none → Q (.ptr t) (updM M t (.lst (List.replicate k.toNat xs).flatten))) : RO X .Mult (.ptr p) (.int k) M Q := fun v w H m r1 r2 => by
  cases r1; cases r2
  obtain ⟨vs, h3, h4⟩ := m p _ hp
  exact ⟨_, op_rep, p, k, vs, rfl, rfl, h3, h1, h2, by rw [← h4.length]; exact hl, fun t ht => new_lst m (h4.rep _) ht q⟩
theorem ro_catT {xs ys : List S} (hl : xs.length + ys.length ≤ sizeLine) (q : Q (.tup (xs ++ ys)) M) : RO X .Add (.tup xs) (.tup ys) M Q := fun v w H m r1 r2 => by
  cases r1 with
  | @tup a1 v1 _ s1 q1 =>
    cases r2 with
    | @tup a2 v2 _ s2 q2 =>
      refine ⟨_, op_catA, _, _, _, _, rfl, rfl, s1.sq, s2.sq, by rw [← q1.length, ← q2.length]; exact hl, fun e => ?_, fun _ e => ?_, fun _ _ t ht => new_tup m (q1.append q2) ht q⟩
      · subst e
        cases q1
        exact ⟨.tup ys, M, Keep.refl, .tup s2 q2, m, q⟩
      · subst e
        cases q2
        rw [List.append_nil] at q
        exact ⟨.tup xs, M, Keep.refl, .tup s1 q1, m, q⟩
theorem ro_repT {xs : List S} {k : Int} (hne : xs ≠ []) (h1 : 2 ≤ k) (h2 : k ≤ 1000) (hl : xs.length ≤ 1000) (q : Q (.tup (List.replicate k.toNat xs).flatten) M) : RO X .Mult (.tup xs) (.int k) M Q := fun v w H m r1 r2 => by
  cases r2
  cases r1 with
  | @tup a1 v1 _ s1 q1 =>
    refine ⟨_, op_repT, _, k, _, rfl, rfl, s1.sq, fun z => ?_, h1, h2, by rw [← q1.length]; exact hl, fun t ht => new_tup m (q1.rep _) ht q⟩
    subst z
    cases q1
    exact hne rfl
/-! comparisons -/
theorem rc_ltI {i j : Int} (q : Q (.bl (decide (i < j))) M) : RC X .Lt (.int i) (.int j) M Q := fun v w H m r1 r2 => by
  cases r1; cases r2; exact ⟨_, op_lt, i, j, rfl, rfl, pack (.bl _) m q⟩
theorem rc_leI {i j : Int} (q : Q (.bl (decide (i ≤ j))) M) : RC X .LtE (.int i) (.int j) M Q := fun v w H m r1 r2 => by
  cases r1; cases r2; exact ⟨_, op_le, i, j, rfl, rfl, pack (.bl _) m q⟩
theorem rc_gtI {i j : Int} (q : Q (.bl (decide (j < i))) M) : RC X .Gt (.int i) (.int j) M Q := fun v w H m r1 r2 => by
  cases r1; cases r2; exact ⟨_, op_gt, i, j, rfl, rfl, pack (.bl _) m q⟩
theorem rc_geI {i j : Int} (q : Q (.bl (decide (j ≤ i))) M) : RC X .GtE (.int i) (.int j) M Q := fun v w H m r1 r2 => by
  cases r1; cases r2; exact ⟨_, op_ge, i, j, rfl, rfl, pack (.bl _) m q⟩
theorem rc_eqI {i j : Int} (q : Q (.bl (decide (i = j))) M) : RC X .Eq (.int i) (.int j) M Q := fun v w H m r1 r2 => by
  cases r1; cases r2
  refine ⟨_, op_eq, rfl, ?_⟩
  have e : decide (V.int i = V.int j) = decide (i = j) := by rw [dec_int]; rfl
  rw [e]
  exact pack (.bl _) m q
theorem rc_neI {i j : Int} (q : Q (.bl (!decide (i = j))) M) : RC X .NotEq (.int i) (.int j) M Q := fun v w H m r1 r2 => by
  cases r1; cases r2
  refine ⟨_, op_ne, rfl, ?_⟩
  have e : decide (V.int i = V.int j) = decide (i = j) := by rw [dec_int]; rfl
  rw [e]
  exact pack (.bl _) m q
theorem rc_eqB {i j : Bool} (q : Q (.bl (decide (i = j))) M) : RC X .Eq (.bl i) (.bl j) M Q := fun v w H m r1 r2 => by
  cases r1; cases r2
  refine ⟨_, op_eq, rfl, ?_⟩
  have e : decide (V.bl i = V.bl j) = decide (i = j) := by rw [dec_bl]; cases i <;> cases j <;> rfl
  rw [e]
  exact pack (.bl _) m q
theorem rc_neB {i j : Bool} (q : Q (.bl (!decide (i = j))) M) : RC X .NotEq (.bl i) (.bl j) M Q := fun v w H m r1 r2 => by
  cases r1; cases r2
  refine ⟨_, op_ne, rfl, ?_⟩
  have e : decide (V.bl i = V.bl j) = decide (i = j) := by rw [dec_bl]; cases i <;> cases j <;> rfl
  rw [e]
  exact pack (.bl _) m q
def isNone : S → Bool
  | .non => true
  | _ => false
theorem rv_none {K : PySem.W.Frag} {H : Hp} {s : S} {v : V} (r : RV K H s v) : decide (v = .non) = isNone s := by
  cases r <;> rfl
theorem rc_isN {s : S} (q : Q (.bl (isNone s)) M) : RC X .Is s .non M Q := fun v w H m r1 r2 => by
  cases r2
  refine ⟨_, op_isN, rfl, ?_⟩
  rw [rv_none r1]
  exact pack (.bl _) m q
theorem rc_notN {s : S} (q : Q (.bl (!isNone s)) M) : RC X .IsNot s .non M Q := fun v w H m r1 r2 => by
  cases r2
  refine ⟨_, op_notN, rfl, ?_⟩
  rw [rv_none r1]
  exact pack (.bl _) m q
/-! subscripts -/
theorem rx_tup {xs : List S} {i : Int} {s : S} (h : atI xs i = some s) (q : Q s M) : RX X (.tup xs) (.int i) M Q := fun v w H m r1 r2 => by
  cases r2
  cases r1 with
  | tup s1 q1 =>
    obtain ⟨j, e1, e2, e3, e4, e5⟩ := atI_get h
    obtain ⟨u, e6, e7⟩ := q1.get e2
    refine ⟨_, ix_tup, _, _, i, u, rfl, rfl, s1.sq, ?_, pack e7 m q⟩
    unfold atI at h ⊢
    rw [← q1.length]
    cases z : ixN xs.length i with
    | none => rw [z] at h; cases h
    | some k =>
      have z2 := (ixN_seq z).1
      rw [e1] at z2
      cases z2
      exact e6
theorem rx_lst {p : Addr} {xs : List S} {i : Int} {s : S} (hp : M p = some (.lst xs)) (h : atI xs i = some s) (q : Q s M) : RX X (.ptr p) (.int i) M Q := fun v w H m r1 r2 => by
  cases r2
  cases r1
  obtain ⟨vs, h1, q1⟩ := m p _ hp
  obtain ⟨j, e1, e2, e3, e4, e5⟩ := atI_get h
  obtain ⟨u, e6, e7⟩ := q1.get e2
  refine ⟨_, ix_list, _, _, i, u, rfl, rfl, SqL.of h1, ?_, pack e7 m q⟩
  unfold atI at h ⊢
  rw [← q1.length]
  cases z : ixN xs.length i with
  | none => rw [z] at h; cases h
  | some k =>
    have z2 := (ixN_seq z).1
    rw [e1] at z2
    cases z2
    exact e6
theorem rx_rdl {xs : List S} {i : Int} {s : S} (h : atI xs i = some s) (q : Q s M) : RX X (.rdl xs) (.int i) M Q := fun v w H m r1 r2 => by
  cases r2
  cases r1 with
  | rdl s1 q1 =>
    obtain ⟨j, e1, e2, e3, e4, e5⟩ := atI_get h
    obtain ⟨u, e6, e7⟩ := q1.get e2
    refine ⟨_, ix_list, _, _, i, u, rfl, rfl, s1.sq, ?_, pack e7 m q⟩
    unfold atI at h ⊢
    rw [← q1.length]
    cases z : ixN xs.length i with
    | none => rw [z] at h; cases h
    | some k =>
      have z2 := (ixN_seq z).1
      rw [e1] at z2
      cases z2
      exact e6
end
end Sy

set_option Elab.async false
set_option linter.all false
set_option maxRecDepth 100000
/-! S5: built-ins by symbolic values, methods of lists, own defs. -/
namespace Sy
open PySem PySem.Spec PyProof.Rows L2
section
variable {X : Cx} {G : Hp} {env : Ev} {M : Mem} {D : SD} {Q : QS} {a b c e o : Expr} {es : List Expr} {pos : Pos}
theorem rvs1 {K : PySem.W.Frag} {H : Hp} {x : S} {vs : List V} (h : RVs K H [x] vs) : ∃ v, vs = [v] ∧ RV K H x v := by
  cases h with
  | cons a b => cases b; exact ⟨_, rfl, a⟩
theorem rvs2 {K : PySem.W.Frag} {H : Hp} {x y : S} {vs : List V} (h : RVs K H [x, y] vs) : ∃ v w, vs = [v, w] ∧ RV K H x v ∧ RV K H y w := by
  cases h with
  | cons a b =>
    obtain ⟨w, rfl, c⟩ := rvs1 b
    exact ⟨_, w, rfl, a, c⟩
/-! ### what a list, a tuple or a frozen list holds -/
def ItS (M : Mem) (s : S) (xs : List S) : Prop := s = .tup xs ∨ s = .rdl xs ∨ ∃ p, s = .ptr p ∧ M p = some (.lst xs)
theorem its_tup {xs : List S} : ItS M (.tup xs) xs := .inl rfl
theorem its_rdl {xs : List S} : ItS M (.rdl xs) xs := .inr (.inl rfl)
theorem its_lst {p : Addr} {xs : List S} (h : M p = some (.lst xs)) : ItS M (.ptr p) xs := .inr (.inr ⟨p, rfl, h⟩)
theorem its_get {H : Hp} {s : S} {xs : List S} {v : V} (i : ItS M s xs) (m : MemR X.K M H) (r : RV X.K H s v) : ∃ a vs, v = .ref a ∧ (SqL X.K H a vs ∨ SqT X.K H a vs) ∧ RVs X.K H xs vs := by
  rcases i with rfl | rfl | ⟨p, rfl, h⟩
  · cases r with
    | tup a b => exact ⟨_, _, rfl, .inr a.sq, b⟩
  · cases r with
    | rdl a b => exact ⟨_, _, rfl, .inl a.sq, b⟩
  · cases r
    obtain ⟨vs, h1, h2⟩ := m p _ h
    exact ⟨p, vs, rfl, .inl (SqL.of h1), h2⟩
theorem rb_len {s : S} {xs : List S} (i : ItS M s xs) (q : Q (.int xs.length) M) : RB X (.builtin "len") [s] M Q := fun vs H m r => by
  obtain ⟨v, rfl, r1⟩ := rvs1 r
  obtain ⟨a, us, rfl, h, ru⟩ := its_get i m r1
  refine ⟨_, call_len_seq, a, us, rfl, h, ?_⟩
  rw [← ru.length]
  exact pack (.int _) m q
theorem rb_lenS {x : Str} (hl : x.length ≤ sizeLine) (q : Q (.int x.length) M) : RB X (.builtin "len") [.str x] M Q := fun vs H m r => by
  obtain ⟨v, rfl, r1⟩ := rvs1 r
  cases r1
  exact ⟨_, call_len_str, x, rfl, hl, pack (.int _) m q⟩
theorem rb_abs {i : Int} (q : Q (.int (if i < 0 then -i else i)) M) : RB X (.builtin "abs") [.int i] M Q := fun vs H m r => by
  obtain ⟨v, rfl, r1⟩ := rvs1 r
  cases r1
  exact ⟨_, call_abs, i, rfl, pack (.int _) m q⟩
theorem rb_max {i j : Int} (q : Q (.int (if j > i then j else i)) M) (hc : X.calm = true := by rfl) : RB X (.builtin "max") [.int i, .int j] M Q := fun vs H m r => by
  obtain ⟨v, w, rfl, r1, r2⟩ := rvs2 r
  cases r1; cases r2
  exact ⟨_, call_max2 hc, i, j, rfl, pack (.int _) m q⟩
theorem rb_min {i j : Int} (q : Q (.int (if j < i then j else i)) M) (hc : X.calm = true := by rfl) : RB X (.builtin "min") [.int i, .int j] M Q := fun vs H m r => by
  obtain ⟨v, w, rfl, r1, r2⟩ := rvs2 r
  cases r1; cases r2
  exact ⟨_, call_min2 hc, i, j, rfl, pack (.int _) m q⟩
theorem rb_intI {i : Int} (q : Q (.int i) M) : RB X (.type "int") [.int i] M Q := fun vs H m r => by
  obtain ⟨v, rfl, r1⟩ := rvs1 r
  cases r1
  exact ⟨_, call_int1, .inl ⟨i, rfl, pack (.int _) m q⟩⟩
theorem rb_intB {k : Bool} (q : Q (.int (if k then 1 else 0)) M) : RB X (.type "int") [.bl k] M Q := fun vs H m r => by
  obtain ⟨v, rfl, r1⟩ := rvs1 r
  cases r1
  exact ⟨_, call_int1, .inr ⟨k, rfl, pack (.int _) m q⟩⟩
theorem rb_strI {i : Int} (h : i.natAbs.log2 < 1920) (q : Q (.str (toString i)) M) : RB X (.type "str") [.int i] M Q := fun vs H m r => by
  obtain ⟨v, rfl, r1⟩ := rvs1 r
  cases r1
  exact ⟨_, call_str_int, i, rfl, h, pack (.str _) m q⟩
theorem rb_list {s : S} {xs : List S} (i : ItS M s xs) (q : ∀ p, M p = none → Q (.ptr p) (updM M p (.lst xs))) : RB X (.type "list") [s] M Q := fun vs H m r => by
  obtain ⟨v, rfl, r1⟩ := rvs1 r
  obtain ⟨a, us, rfl, h, ru⟩ := its_get i m r1
  exact ⟨_, call_list_of, a, us, rfl, h, fun l hl => new_lst m ru hl q⟩
theorem rb_tupleL {p : Addr} {xs : List S} (i : M p = some (.lst xs)) (q : Q (.tup xs) M) : RB X (.type "tuple") [.ptr p] M Q := fun vs H m r => by
  obtain ⟨v, rfl, r1⟩ := rvs1 r
  cases r1
  obtain ⟨us, h1, h2⟩ := m p _ i
  exact ⟨_, call_tuple_of, p, us, rfl, .inl ⟨SqL.of h1, fun l hl => new_tup m h2 hl q⟩⟩
theorem rb_tupleT {xs : List S} (q : Q (.tup xs) M) : RB X (.type "tuple") [.tup xs] M Q := fun vs H m r => by
  obtain ⟨v, rfl, r1⟩ := rvs1 r
  cases r1 with
  | tup h1 h2 => exact ⟨_, call_tuple_of, _, _, rfl, .inr ⟨h1.sq, pack (.tup h1 h2) m q⟩⟩
theorem rvs_bls {K : PySem.W.Frag} {H : Hp} : ∀ {bs : List Bool} {vs : List V}, RVs K H (bs.map S.bl) vs → vs = bs.map V.bl
  | [], _, h => by cases h; rfl
  | b :: bs, _, h => by
    cases h with
    | cons r t => cases r; rw [rvs_bls t]; rfl
theorem rvs_ints {K : PySem.W.Frag} {H : Hp} : ∀ {bs : List Int} {vs : List V}, RVs K H (bs.map S.int) vs → vs = bs.map V.int
  | [], _, h => by cases h; rfl
  | b :: bs, _, h => by
    cases h with
    | cons r t => cases r; rw [rvs_ints t]; rfl
theorem rb_all {p : Addr} {bs : List Bool} (i : M p = some (.lst (bs.map S.bl))) (q : Q (.bl (bs.all id)) M) (hc : X.calm = true := by rfl) : RB X (.builtin "all") [.ptr p] M Q := fun vs H m r => by
  obtain ⟨v, rfl, r1⟩ := rvs1 r
  cases r1
  obtain ⟨us, h1, h2⟩ := m p _ i
  have e := rvs_bls h2
  subst e
  exact ⟨_, cr_all hc, p, bs, rfl, SqL.of h1, pack (.bl _) m q⟩
theorem rb_any {p : Addr} {bs : List Bool} (i : M p = some (.lst (bs.map S.bl))) (q : Q (.bl (bs.any id)) M) (hc : X.calm = true := by rfl) : RB X (.builtin "any") [.ptr p] M Q := fun vs H m r => by
  obtain ⟨v, rfl, r1⟩ := rvs1 r
  cases r1
  obtain ⟨us, h1, h2⟩ := m p _ i
  have e := rvs_bls h2
  subst e
  exact ⟨_, cr_any hc, p, bs, rfl, SqL.of h1, pack (.bl _) m q⟩
theorem rb_sum {p : Addr} {ns : List Int} (i : M p = some (.lst (ns.map S.int))) (q : Q (.int ns.sum) M) (hc : X.calm = true := by rfl) : RB X (.builtin "sum") [.ptr p] M Q := fun vs H m r => by
  obtain ⟨v, rfl, r1⟩ := rvs1 r
  cases r1
  obtain ⟨us, h1, h2⟩ := m p _ i
  have e := rvs_ints h2
  subst e
  exact ⟨_, cr_sum hc, p, ns, rfl, SqL.of h1, pack (.int _) m q⟩
/-! ### isinstance -/
def tyS (M : Mem) : S → Option String
  | .non => some "NoneType"
  | .bl _ => some "bool"
  | .int _ => some "int"
  | .str _ => some "str"
  | .tup _ => some "tuple"
  | .rdl _ => some "list"
  | .ptr p => match M p with
    | some (.lst _) => some "list"
    | some (.dK _) => some "dict"
    | none => none
  | .ty _ => none
theorem tyS_ok {H : Hp} {s : S} {t : String} {v : V} (h : tyS M s = some t) (m : MemR X.K M H) (r : RV X.K H s v) : TyX X.K H v (.type t) := by
  cases r with
  | non => cases h; exact .base .non
  | bl b => cases h; exact .base (.bl b)
  | int i => cases h; exact .base (.int i)
  | str x => cases h; exact .base (.str x)
  | ty n => cases h
  | ptr a =>
    unfold tyS at h
    dsimp only at h
    cases e : M a with
    | none => rw [e] at h; cases h
    | some o =>
      rw [e] at h
      cases o with
      | lst xs =>
        cases h
        obtain ⟨vs, h1, _⟩ := m a _ e
        exact .base (.lst h1)
      | dK kvs =>
        cases h
        obtain ⟨vs, h1, _⟩ := m a _ e
        exact .base (.dK h1)
  | tup h1 h2 =>
    cases h
    rcases h1 with h1 | (h1 | ⟨o, h1⟩) | ⟨o, its, n, hk, hc, _⟩
    · exact .base (.tup h1)
    · cases h1
    · cases h1
    · exact .kTuple hk hc
  | rdl h1 h2 =>
    cases h
    rcases h1 with ⟨o, h1⟩ | (h1 | ⟨o, h1⟩) | ⟨o, its, n, hk, hc, _⟩
    · exact .base (.frz h1)
    · cases h1
    · cases h1
    · exact .kList hk hc
theorem rb_isi {s : S} {n t : String} {k : Bool} (ht : tyS M s = some t) (hk : kitB t n = some k) (q : Q (.bl k) M) : RB X (.builtin "isinstance") [s, .ty n] M Q := fun vs H m r => by
  obtain ⟨v, w, rfl, r1, r2⟩ := rvs2 r
  cases r2
  exact ⟨_, call_isi, v, .ty n, .type t, .type n, k, rfl, .ty n, tyS_ok ht m r1, kit_ty hk, pack (.bl _) m q⟩
theorem rb_isiT {s : S} {ns : List String} {t : String} {k : Bool} (ht : tyS M s = some t) (hk : ∀ K : PySem.W.Frag, PySem.W.kitAny K (.type t) (ns.map Value.type) = some k) (q : Q (.bl k) M) : RB X (.builtin "isinstance") [s, .tup (ns.map S.ty)] M Q := fun vs H m r => by
  obtain ⟨v, w, rfl, r1, r2⟩ := rvs2 r
  have e : ∀ (ns : List String) (ws : List V), RVs X.K H (ns.map S.ty) ws → ws = ns.map V.ty := by
    intro ns
    induction ns with
    | nil => intro ws h; cases h; rfl
    | cons n ns ih =>
      intro ws h
      cases h with
      | cons a b => cases a; rw [ih _ b]; rfl
  cases r2 with
  | @tup a ws _ h1 h2 =>
    have e2 := e _ _ h2
    subst e2
    have pr : ∀ ns : List String, Paired ClsV (ns.map V.ty) (ns.map Value.type) := by
      intro ns
      induction ns with
      | nil => exact .nil
      | cons n ns ih => exact .cons (.ty n) ih
    rcases h1 with h1 | (h1 | ⟨o, h1⟩) | ⟨o, its, n, hk2, hc, hd, hz, hv⟩
    · exact ⟨_, call_isiT, v, a, ns.map V.ty, .type t, ns.map Value.type, k, rfl, h1, pr ns, tyS_ok ht m r1, hk _, pack (.bl _) m q⟩
    · cases h1
    · cases h1
    · have e3 : its.toList = ns.map Value.type := ClsV.all (pr ns) hv
      obtain ⟨oc, od, oda, osl⟩ := o
      simp only at hc hd
      subst hc hd
      refine ⟨_, call_isiK, v, a, od, ns.map Value.type, n, osl, .type t, k, rfl, ?_, tyS_ok ht m r1, hk _, pack (.bl _) m q⟩
      rw [← e3]
      exact hk2
/-! ### methods of lists -/
theorem put_at {H : Hp} {p : Addr} {vs : List V} {ss' : List S} {vs' : List V} (m : MemR X.K M H) (hp : H p = some (.lst vs)) (r : RVs X.K H ss' vs') : MemR X.K (updM M p (.lst ss')) (upd H p (.lst vs')) := m.put (u := .lst ss') (keep_lst hp) ⟨vs', upd_same, r.up (keep_lst hp)⟩
theorem se_append {apos : Pos} (h : SE X G o env M fun s M1 => ∃ p, s = .ptr p ∧ (∃ xs, M1 p = some (.lst xs)) ∧ SE X G e env M1 fun y M2 => ∃ xs, M2 p = some (.lst xs) ∧ xs.length < sizeLine ∧ Q .non (updM M2 p (.lst (xs ++ [y]))))
    (hbase : attributeBase o "append" X.env (eval o X.env) = eval o X.env := by rfl) (hfew : ((backTo pos (starEach [e] X.env)).all (fun x => !x.1) && (backToKw pos (keywordEach [] X.env)).all (fun x => x.1.isSome) && decide (([e] : List Expr).length + ([] : List Keyword).length + (if ([] : List Keyword).isEmpty then 0 else 1) < 30)) = true := by rfl)
    (hline : (apos.endLine == pos.line) = true := by rfl) (hs : starEach [e] X.env = (false, eval e X.env) :: starEach [] X.env := by rfl) (hpl : (backTo pos (starEach [] X.env)).any (·.1) = false := by rfl) : SE X G (.Call (.Attribute o "append" apos) [e] [] pos) env M Q := fun σ H R =>
  ⟨_, pe_bm PySem.F.plainAttrs_list PySem.F.slot_list_append PySem.F.type_list_append mt_append pe_S (pa_cons (te := tS X G e) pe_S pa_nil hs) hbase hfew hline hs hpl,
    tS_go R h fun s M1 v H1 k1 rv R1 ⟨p, e1, ⟨xs0, hp0⟩, q1⟩ => by
      subst e1
      cases rv
      obtain ⟨vs0, h10, _⟩ := R1.mem p _ hp0
      refine ⟨.inl ⟨rfl, _, SqL.of h10⟩, tS_go R1 q1 fun y M2 w H2 k2 rw R2 ⟨xs, hp, hl, q2⟩ => ?_⟩
      obtain ⟨vs, h1, h2⟩ := R2.mem p _ hp
      exact ⟨p, vs, w, rfl, rfl, h1, by rw [← h2.length]; exact hl, .non, _, (k1.trans k2).trans (keep_lst h1), .non, put_at R2.mem h1 (h2.append (.cons rw .nil)), q2⟩⟩
theorem se_pop0 {apos : Pos} (h : SE X G o env M fun s M1 => ∃ p xs y, s = .ptr p ∧ M1 p = some (.lst xs) ∧ xs[xs.length - 1]? = some y ∧ Q y (updM M1 p (.lst xs.dropLast)))
    (hbase : attributeBase o "pop" X.env (eval o X.env) = eval o X.env := by rfl) (hline : (apos.endLine == pos.line) = true := by rfl) : SE X G (.Call (.Attribute o "pop" apos) [] [] pos) env M Q := fun σ H R =>
  ⟨_, pe_bm0 PySem.F.plainAttrs_list PySem.F.slot_list_pop PySem.F.type_list_pop mt_pop pe_S hbase hline, tS_go R h fun s M1 v H1 k1 rv R1 ⟨p, xs, y, e1, hp, hy, q1⟩ => by
      subst e1
      cases rv
      obtain ⟨vs, h1, h2⟩ := R1.mem p _ hp
      obtain ⟨u, e2, e3⟩ := h2.get hy
      exact ⟨.inl ⟨rfl, _, SqL.of h1⟩, p, vs, u, rfl, rfl, h1, by rw [← h2.length]; exact e2, y, _, k1.trans (keep_lst h1), e3.up (keep_lst h1), put_at R1.mem h1 h2.dropLast, q1⟩⟩
theorem se_reverse {apos : Pos} (h : SE X G o env M fun s M1 => ∃ p xs, s = .ptr p ∧ M1 p = some (.lst xs) ∧ Q .non (updM M1 p (.lst xs.reverse)))
    (hbase : attributeBase o "reverse" X.env (eval o X.env) = eval o X.env := by rfl) (hline : (apos.endLine == pos.line) = true := by rfl) : SE X G (.Call (.Attribute o "reverse" apos) [] [] pos) env M Q := fun σ H R =>
  ⟨_, pe_bm0 PySem.F.plainAttrs_list PySem.F.slot_list_reverse PySem.F.type_list_reverse mt_reverse pe_S hbase hline, tS_go R h fun s M1 v H1 k1 rv R1 ⟨p, xs, e1, hp, q1⟩ => by
      subst e1
      cases rv
      obtain ⟨vs, h1, h2⟩ := R1.mem p _ hp
      exact ⟨.inl ⟨rfl, _, SqL.of h1⟩, p, vs, rfl, rfl, h1, .non, _, k1.trans (keep_lst h1), .non, put_at R1.mem h1 h2.reverse, q1⟩⟩
theorem se_popI {apos : Pos} (h : SE X G o env M fun s M1 => ∃ p, s = .ptr p ∧ (∃ xs, M1 p = some (.lst xs)) ∧ SE X G e env M1 fun i M2 => ∃ xs n k y, i = .int n ∧ M2 p = some (.lst xs) ∧ seqIndex? n xs.length = some k ∧ xs[k]? = some y ∧ -(2 ^ 63) ≤ n ∧ n < 2 ^ 63 ∧ Q y (updM M2 p (.lst (xs.eraseIdx k))))
    (hbase : attributeBase o "pop" X.env (eval o X.env) = eval o X.env := by rfl) (hfew : ((backTo pos (starEach [e] X.env)).all (fun x => !x.1) && (backToKw pos (keywordEach [] X.env)).all (fun x => x.1.isSome) && decide (([e] : List Expr).length + ([] : List Keyword).length + (if ([] : List Keyword).isEmpty then 0 else 1) < 30)) = true := by rfl)
    (hline : (apos.endLine == pos.line) = true := by rfl) (hs : starEach [e] X.env = (false, eval e X.env) :: starEach [] X.env := by rfl) (hpl : (backTo pos (starEach [] X.env)).any (·.1) = false := by rfl) : SE X G (.Call (.Attribute o "pop" apos) [e] [] pos) env M Q := fun σ H R =>
  ⟨_, pe_bm PySem.F.plainAttrs_list PySem.F.slot_list_pop PySem.F.type_list_pop mt_popAt pe_S (pa_cons (te := tS X G e) pe_S pa_nil hs) hbase hfew hline hs hpl,
    tS_go R h fun s M1 v H1 k1 rv R1 ⟨p, e1, ⟨xs0, hp0⟩, q1⟩ => by
      subst e1
      cases rv
      obtain ⟨vs0, h10, _⟩ := R1.mem p _ hp0
      refine ⟨.inl ⟨rfl, _, SqL.of h10⟩, tS_go R1 q1 fun y M2 w H2 k2 rw' R2 ⟨xs, n, k, y, en, hp, e2, e3, b1, b2, q2⟩ => ?_⟩
      subst en
      cases rw'
      obtain ⟨vs, h1, h2⟩ := R2.mem p _ hp
      obtain ⟨u, e4, e5⟩ := h2.get e3
      exact ⟨p, vs, n, k, u, rfl, rfl, h1, b1, b2, by rw [← h2.length]; exact e2, e4, y, _, (k1.trans k2).trans (keep_lst h1), e5.up (keep_lst h1), put_at R2.mem h1 (h2.eraseIdx k), q2⟩⟩
/-- xs[i] = v -/
theorem sg_item {a b : Expr} {s : S} {n : Ev → Mem → Prop} (h : SE X G a env M fun x M1 => SE X G b env M1 fun y M2 => ∃ p xs k j, x = .ptr p ∧ y = .int k ∧ M2 p = some (.lst xs) ∧ ixN xs.length k = some j ∧ n env (updM M2 p (.lst (xs.set j s))))
    (ha : ∀ v, assign (.Subscript a b pos) X.env v = (do let ov ← holding [v] (eval a X.env); let iv ← holding [v, ov] (eval b X.env); standAt pos; holding [v, ov, iv] (setItem ov iv v); release [v, ov, iv] []) := by intro _; rfl) : SG X G (.Subscript a b pos) s env M n := fun G1 kG v σ H R hv =>
  ⟨_, pg_sub (to := tS X G a) (ti := tS X G b) pe_S pe_S set_list ha, tS_at kG R h fun x M1 u H1 k1 r1 R1 q1 => tS_at kG R1 q1 fun y M2 w H2 k2 r2 R2 ⟨p, xs, k, j, e1, e2, hp, hj, q2⟩ => by
    subst e1 e2
    cases r1
    cases r2
    obtain ⟨vs, h1, h2⟩ := R2.mem p _ hp
    have kk := keep_lst (K := X.K) (o := .lst (vs.set j v)) h1
    exact ⟨p, vs, k, j, rfl, rfl, h1, by rw [← h2.length]; exact hj, (k1.trans k2).trans kk, env, _, R2.step kk (put_at R2.mem h1 (h2.set (hv.up (k1.trans k2)) j)), q2⟩⟩
/-! ### slices -/
inductive SO (X : Cx) (G : Hp) : Option Expr → Ev → Mem → (Option Int → Mem → Prop) → Prop where
  | none {env : Ev} {M : Mem} {Q : Option Int → Mem → Prop} (q : Q none M) : SO X G none env M Q
  | some {e : Expr} {env : Ev} {M : Mem} {Q : Option Int → Mem → Prop} (h : SE X G e env M fun s M1 => ∃ i, s = .int i ∧ Q (some i) M1) : SO X G (some e) env M Q
def tSO (X : Cx) (G : Hp) : Option Expr → TO
  | none => tNoPart
  | some e => tPart (tS X G e)
theorem po_S : ∀ {o : Option Expr}, PO X o (tSO X G o)
  | none => po_none
  | some e => po_some pe_S
theorem so_go {o : Option Expr} {Q : Option Int → Mem → Prop} {σ : L2.St} {H : Hp} {R : Option Int → Hp → Prop} (r : Rel X.K G env M σ H) (h : SO X G o env M Q) (k : ∀ i M' H', Keep X.K H H' → Rel X.K G env M' σ H' → Q i M' → R i H') : tSO X G o σ H R := by
  cases h with
  | none q => exact k none M H Keep.refl r q
  | some h =>
    refine tS_go r h fun s M1 v H1 k1 rv R1 z => ?_
    obtain ⟨i, e, q⟩ := z
    subst e
    cases rv
    exact ⟨i, rfl, k (some i) M1 H1 k1 R1 q⟩
def cutS (xs : List S) (lo hi : Option Int) : List S := (xs.drop (HT.sIx xs.length 0 lo)).take (HT.sIx xs.length xs.length hi - HT.sIx xs.length 0 lo)
theorem cut_rv {K : PySem.W.Frag} {H : Hp} {xs : List S} {vs : List V} (r : RVs K H xs vs) (lo hi : Option Int) : RVs K H (cutS xs lo hi) (cutV vs lo hi) := by
  unfold cutS cutV
  rw [r.length]
  exact (r.drop _).take _
theorem se_cutL {lo hi : Option Expr} {p2 : Pos} (h : SE X G e env M fun s M1 => SO X G lo env M1 fun i M2 => SO X G hi env M2 fun j M3 => ∃ p xs, s = .ptr p ∧ M3 p = some (.lst xs) ∧ ∀ t, M3 t = none → Q (.ptr t) (updM M3 t (.lst (cutS xs i j)))) : SE X G (.Subscript e (.Slice lo hi none p2) pos) env M Q := fun σ H R =>
  ⟨_, pe_slice sl_list (te := tS X G e) pe_S (po_S (G := G)) (po_S (G := G)), tS_go R h fun s M1 v H1 k1 rv R1 q1 => so_go R1 q1 fun i M2 H2 k2 R2 q2 => so_go R2 q2 fun j M3 H3 k3 R3 ⟨p, xs, e1, hp, q3⟩ => by
    subst e1
    cases rv
    obtain ⟨vs, h1, h2⟩ := R3.mem p _ hp
    exact ⟨p, vs, rfl, SqL.of h1, fun t ht => (new_lst R3.mem (cut_rv h2 i j) ht q3).back (k1.trans (k2.trans k3))⟩⟩
theorem se_cutT {lo hi : Option Expr} {p2 : Pos} (h : SE X G e env M fun s M1 => SO X G lo env M1 fun i M2 => SO X G hi env M2 fun j M3 => ∃ xs, s = .tup xs ∧ Q (.tup (cutS xs i j)) M3) : SE X G (.Subscript e (.Slice lo hi none p2) pos) env M Q := fun σ H R =>
  ⟨_, pe_slice sl_tupA (te := tS X G e) pe_S (po_S (G := G)) (po_S (G := G)), tS_go R h fun s M1 v H1 k1 rv R1 q1 => so_go R1 q1 fun i M2 H2 k2 R2 q2 => so_go R2 q2 fun j M3 H3 k3 R3 ⟨xs, e1, q3⟩ => by
    subst e1
    cases rv.up (k2.trans k3) with
    | @tup a vs _ h1 h2 =>
      refine ⟨a, vs, rfl, h1.sq, fun ⟨z1, z2⟩ => ?_, fun _ t ht => (new_tup R3.mem (cut_rv h2 i j) ht q3).back (k1.trans (k2.trans k3))⟩
      have e : cutS xs i j = xs := by
        unfold cutS
        rw [h2.length, z1, z2, List.drop_zero, Nat.sub_zero, ← h2.length, List.take_length]
      rw [e] at q3
      exact ⟨.tup xs, M3, k1.trans (k2.trans k3), .tup h1 h2, R3.mem, q3⟩⟩
end
end Sy

set_option Elab.async false
set_option linter.all false
set_option maxRecDepth 100000
/-! S6: own defs and their promises; a context told by its names. -/
namespace Sy
open PySem PySem.Spec PyProof.Rows L2
abbrev Con := List S → Mem → QS → (Addr → S → Mem → Prop) → Prop
abbrev E0c : Addr → S → Mem → Prop := fun _ _ _ => False
/-- a promise by symbolic values -/
def SpC (K : PySem.W.Frag) (C : Con) : Sp := fun vs H Q E => ∃ ss M Q' E', RVs K H ss vs ∧ MemR K M H ∧ C ss M Q' E' ∧ (∀ s M' v H', Keep K H H' → RV K H' s v → MemR K M' H' → Q' s M' → Q v H') ∧
  ∀ c s M' d v H', Keep K H H' → H' d = some (.xd [(("value" : Str), v)]) → RV K H' s v → MemR K M' H' → E' c s M' → E (.ref c) (some d) H'
/-- an own def, at hand in a context -/
structure Fn (P : Program) (w : World) (K : PySem.W.Frag) (mg : Str → Option Value) (base : Heap) (nm : Str) (k : Nat) (C : Con) : Prop where
  ex : ∃ f fd ps, FnOk P w K mg base (L2.CX P w) k f fd ps (SpC K C) ∧ mg nm = some (.ref f) ∧ PySem.W.keepIn K (.ref f) = true ∧ Binds K fd ps []
/-- what a context's exceptions may be -/
def Wish (X : Cx) (G : Hp) (Z : Ev → Addr → S → Mem → Prop) : Prop := ∃ W : WX, Takes X W ∧ ∀ env M σ H c s d v, Rel X.K G env M σ H → Z env c s M → H d = some (.xd [(("value" : Str), v)]) → RV X.K H s v → W (.ref c) (some d) σ H
section
variable {X : Cx} {G : Hp} {env : Ev} {M : Mem} {D : SD} {Q : QS} {a b c e o : Expr} {es : List Expr} {pos : Pos} {C : Con} {x : Str} {k j : Nat} {p : Pos}
/-- f(..), nothing raised -/
theorem se_call (F : Fn X.prog X.w X.K X.mg X.base x k C) (hr : Room j X.A) (hg : Gl X x) (h : SA X G (e :: es) env M fun ss M1 => C ss M1 Q E0c) (hkj : k ≤ j := by decide) (hdb : (x == ("__debug__" : Str)) = false := by decide)
    (he : starEach (e :: es) X.env = (false, eval e X.env) :: starEach es X.env := by rfl) (hpl : (backTo pos (starEach es X.env)).any (·.1) = false := by rfl) : SE X G (.Call (.Name x p) (e :: es) [] pos) env M Q := fun σ H R => by
  obtain ⟨f, fd, ps, F, hm, hk, hb⟩ := F.ex
  refine ⟨_, pe_call F (hr.mono hkj) hg hm hk hb .nil passL pa_S hdb he hpl, tSA_go R h fun ss M1 vs H1 k1 rvs R1 q => ?_⟩
  rw [List.append_nil]
  exact ⟨ss, M1, Q, E0c, rvs, R1.mem, q, fun s M' v H' k2 rv m' q' => ⟨s, M', k1.trans k2, rv, m', q'⟩, fun _ _ _ _ _ _ _ _ _ _ z => z.elim⟩
/-- f(..), which may raise -/
theorem se_callX {Z : Ev → Addr → S → Mem → Prop} (F : Fn X.prog X.w X.K X.mg X.base x k C) (hr : Room j X.A) (hz : Wish X G Z) (hg : Gl X x) (h : SA X G (e :: es) env M fun ss M1 => C ss M1 Q (Z env)) (hkj : k ≤ j := by decide) (hdb : (x == ("__debug__" : Str)) = false := by decide)
    (he : starEach (e :: es) X.env = (false, eval e X.env) :: starEach es X.env := by rfl) (hpl : (backTo pos (starEach es X.env)).any (·.1) = false := by rfl) : SE X G (.Call (.Name x p) (e :: es) [] pos) env M Q := fun σ H R => by
  obtain ⟨f, fd, ps, F, hm, hk, hb⟩ := F.ex
  obtain ⟨W, tk, hW⟩ := hz
  refine ⟨_, pe_callS F (hr.mono hkj) hg hm hk hb (fun σ => passAt tk σ) pa_S hdb he hpl, tSA_go R h fun ss M1 vs H1 k1 rvs R1 q => ?_⟩
  exact ⟨ss, M1, Q, Z env, rvs, R1.mem, q, fun s M' v H' k2 rv m' q' => ⟨s, M', k1.trans k2, rv, m', q'⟩, fun c s M' d v H' k2 hd rv m' z => hW env M' σ H' c s d v (R1.step k2 m') z hd rv⟩
end
/-- a context by its names, as the text has them -/
structure DX (X : Cx) (N : List Str) (sc : Scope) (k : Nat) : Prop where
  hN : X.N = N
  sc : X.env.scope = sc
  calm : X.calm = true
  nd : N.Nodup
  room : Room k X.A
  own : PassesOwn (model X.prog X.w) X.A X.env X.xe
  fn : ∀ x, X.fn x = true
/-- the slots at a def's entry -/
def startE (N : List Str) (ss : List S) : Ev := ss.map some ++ List.replicate (N.length - ss.length) none
section
variable {P : Program} {w : World} {K : PySem.W.Frag} {mg : Str → Option Value} {base : Heap}
theorem def_ok {x qual : Str} {st : Stmt} {f : Addr} {fd : FuncData} {N ps : List Str} {k : Nat} {C : Con} (F : Fun K x qual st f fd) (S1 : FnScope N ps (defScope st)) (len : ∀ ss M Q E, C ss M Q E → ss.length = ps.length)
    (body : ∀ (X : Cx) (G : Hp), X.prog = P → X.w = w → X.K = K → X.mg = mg → X.base = base → DX X N (defScope st) k → ∀ ss M Q E, C ss M Q E → Wish X G (fun _ c s M => E c s M) → SSs X G (defBody st) (startE N ss) M { nx := fun _ M' => Q .non M', rt := Q }) :
    FnOk P w K mg base (L2.CX P w) (k + 1) f fd ps (SpC K C) := by
  refine F.okX S1 (fun vs H Q E h => ?_) (fun cdv A outer s H vs Q E hr h => ?_)
  · obtain ⟨ss, M, Q', E', r, _, hc, _⟩ := h
    rw [← r.length]
    exact len _ _ _ _ hc
  · obtain ⟨ss, M, Q', E', r, m, hc, hq, he⟩ := h
    have d : DX (cxOf (L2.CX P w) P w K mg base N qual (defScope st) f cdv A outer s H E) N (defScope st) k := ⟨rfl, rfl, rfl, S1.nd, hr, passes_of rfl, fun _ => rfl⟩
    have wi : Wish (cxOf (L2.CX P w) P w K mg base N qual (defScope st) f cdv A outer s H E) H (fun _ c s M => E' c s M) := ⟨_, takes_of rfl rfl rfl rfl, fun env M σ H' c s d v R z hd rv => he c s M d v H' R.base hd rv R.mem z⟩
    have b := body _ H rfl rfl rfl rfl rfl d ss M Q' E' hc wi H Keep.refl (L2.start N vs) H ⟨Keep.refl, ?_, m⟩
    · refine ⟨_, pss_S, _, _, _, _, Keep.refl, ⟨Keep.refl, ?_, m⟩, fun G1 kG σ1 H1 R1 => body _ H rfl rfl rfl rfl rfl d ss M Q' E' hc wi G1 kG σ1 H1 R1, ⟨fun σ' H' ⟨v, M', R', q⟩ => hq _ _ _ _ R'.base .non R'.mem q, fun v H' ⟨s, M', k', rv, m', q⟩ => hq _ _ _ _ k' rv m' q, fun _ _ ⟨_, _, _, z⟩ => z.elim, fun _ _ ⟨_, _, _, z⟩ => z.elim⟩⟩
      unfold L2.start startE
      rw [← r.length]
      exact EnvR.of ss r _
    · unfold L2.start startE
      rw [← r.length]
      exact EnvR.of ss r _
end
end Sy

set_option Elab.async false
set_option linter.all false
set_option maxRecDepth 100000
/-! S7: the rules by the names of a def. -/
namespace Sy
open PySem PySem.Spec PyProof.Rows L2
/-- what a context's reading of names goes by -/
structure DN (X : Cx) (N : List Str) (sc : Scope) (k : Nat) : Prop where
  hN : X.N = N
  sc : X.env.scope = sc
  calm : X.calm = true
  room : Room k X.A
theorem DX.dn {X : Cx} {N : List Str} {sc : Scope} {k : Nat} (d : DX X N sc k) : DN X N sc k := ⟨d.hN, d.sc, d.calm, d.room⟩
def nmB (N : List Str) (sc : Scope) (i : Nat) (x : Str) : Bool := decide (N[i]? = some x) && (match sc.names.lookup x with | some .local => true | some .cell => true | some .free => true | _ => false) && !(x == ("__debug__" : Str)) && !(x == ("__classdict__" : Str))
def lcB (N : List Str) (sc : Scope) (i : Nat) (x : Str) : Bool := decide (N[i]? = some x) && (match sc.names.lookup x with | some .local => true | some .cell => true | _ => false)
def loB (N : List Str) (sc : Scope) (i : Nat) (x : Str) : Bool := decide (N[i]? = some x) && (match sc.names.lookup x with | some .local => true | _ => false)
def glB (sc : Scope) (x : Str) : Bool := match sc.names.lookup x with | some .globalImplicit => true | _ => false
section
variable {X : Cx} {G : Hp} {env : Ev} {M : Mem} {D : SD} {Q : QS} {a b c e o : Expr} {es : List Expr} {pos : Pos} {N : List Str} {sc : Scope} {k : Nat} {x : Str} {p : Pos}
theorem gl_of (d : DN X N sc k) (h : glB sc x = true) : Gl X x := by
  show X.env.scope.names.lookup x = some .globalImplicit
  rw [d.sc]
  unfold glB at h
  split at h
  · assumption
  · cases h
theorem dn_name (d : DN X N sc k) (i : Nat) {s : S} (h : nmB N sc i x = true) (he : env[i]? = some (some s)) (q : Q s M) : SE X G (.Name x pos) env M Q := by
  unfold nmB at h
  simp only [Bool.and_eq_true, decide_eq_true_eq, Bool.not_eq_true'] at h
  obtain ⟨⟨⟨h1, h2⟩, h3⟩, h4⟩ := h
  refine se_name he (by rw [d.hN]; exact h1) ?_ q h3 h4
  unfold Vis
  rw [d.sc]
  split at h2
  · exact .inl (by assumption)
  · exact .inr (.inl (by assumption))
  · exact .inr (.inr (by assumption))
  · cases h2
theorem loc_of (d : DX X N sc k) {i : Nat} (h : lcB N sc i x = true) : X.N[i]? = some x ∧ Loc X.env.scope x := by
  unfold lcB at h
  simp only [Bool.and_eq_true, decide_eq_true_eq] at h
  obtain ⟨h1, h2⟩ := h
  refine ⟨by rw [d.hN]; exact h1, ?_⟩
  unfold L2.Loc
  rw [d.sc]
  split at h2
  · exact .inl (by assumption)
  · exact .inr (by assumption)
  · cases h2
theorem lo_of (d : DX X N sc k) {i : Nat} (h : loB N sc i x = true) : X.N[i]? = some x ∧ X.env.scope.names.lookup x = some .local := by
  unfold loB at h
  simp only [Bool.and_eq_true, decide_eq_true_eq] at h
  obtain ⟨h1, h2⟩ := h
  refine ⟨by rw [d.hN]; exact h1, ?_⟩
  rw [d.sc]
  split at h2
  · assumption
  · cases h2
theorem DX.ndX (d : DX X N sc k) : X.N.Nodup := by rw [d.hN]; exact d.nd
theorem dx_set (d : DX X N sc k) (i : Nat) {pos' : Pos} (h : lcB N sc i x = true) (hs : swapsWith e (some (.Name x pos')) pos.line X.env = pure false) (q : SE X G e env M fun s M' => D.nx (env.set i (some s)) M') : SS X G (.Assign [.Name x pos'] e pos) env M D :=
  ss_set q d.ndX (loc_of d h).1 (loc_of d h).2 hs (.inl (d.fn x))
theorem dx_tgt (d : DX X N sc k) (i : Nat) {s : S} {n : Ev → Mem → Prop} (h : lcB N sc i x = true) (q : n (env.set i (some s)) M) : SG X G (.Name x pos) s env M n :=
  sg_name q d.ndX (loc_of d h).1 (loc_of d h).2 (.inl (d.fn x))
theorem dx_for (d : DX X N sc k) {tg iter : Expr} {body : List Stmt} (hs : ∀ x, foldedSetIterable iter X.env x = pure x) (h : SI X G tg iter env M fun xs Gd M1 => ∃ I : Nat → Ev → Mem → Prop, I 0 env M1 ∧ (∀ i v M', I i v M' → Gd M') ∧
      (∀ i x v M', xs[i]? = some x → I i v M' → SG X G tg x v M' fun v2 M2 => SSs X G body v2 M2 { nx := I (i + 1), ct := I (i + 1), bk := D.nx, rt := D.rt }) ∧ ∀ v M', I xs.length v M' → D.nx v M') : SS X G (.For tg iter body [] pos) env M D := ss_for h d.own d.calm hs
theorem dx_par (d : DX X N sc k) (i j : Nat) {x y : Str} {px py pt : Pos} {kt k2 pt2} (hi : loB N sc i x = true) (hj : loB N sc j y = true) (hij : i ≠ j) (hw : swappedStores [.Tuple [.Name x px, .Name y py] kt pt] (.Tuple [a, b] k2 pt2) X.env = pure (some [x, y]))
    (hs : swapsWithSole [.Tuple [.Name x px, .Name y py] kt pt] (.Tuple [a, b] k2 pt2) pos.line X.env = pure false) (h : SA X G [a, b] env M fun vs M' => ∃ v w, vs = [v, w] ∧ D.nx ((env.set i (some v)).set j (some w)) M') : SS X G (.Assign [.Tuple [.Name x px, .Name y py] kt pt] (.Tuple [a, b] k2 pt2) pos) env M D :=
  ss_par h d.ndX (lo_of d hi).1 (lo_of d hj).1 hij (lo_of d hi).2 (lo_of d hj).2 hw d.calm hs
theorem dn_callB (d : DN X N sc k) {id : String} (hm : X.mg x = none) (hv : bootBuiltins x = some (.builtin id)) (hg : glB sc x = true) (hn : x ≠ "__name__") (hdb : (x == ("__debug__" : Str)) = false)
    (he : starEach (e :: es) X.env = (false, eval e X.env) :: starEach es X.env) (hpl : (backTo pos (starEach es X.env)).any (·.1) = false) (h : SA X G (e :: es) env M fun xs M1 => RB X (.builtin id) xs M1 Q) : SE X G (.Call (.Name x p) (e :: es) [] pos) env M Q := se_callB (gl_of d hg) hm hv h hn hdb he hpl
theorem dn_callT (d : DN X N sc k) {T : String} (hm : X.mg x = none) (hv : bootBuiltins x = some (.type T)) (hg : glB sc x = true) (hn : x ≠ "__name__") (hdb : (x == ("__debug__" : Str)) = false)
    (he : starEach (e :: es) X.env = (false, eval e X.env) :: starEach es X.env) (hpl : (backTo pos (starEach es X.env)).any (·.1) = false) (h : SA X G (e :: es) env M fun xs M1 => RB X (.type T) xs M1 Q) : SE X G (.Call (.Name x p) (e :: es) [] pos) env M Q := se_callT (gl_of d hg) hm hv h hn hdb he hpl
theorem dn_ty (d : DN X N sc k) {n : String} (hm : X.mg x = none) (hv : bootBuiltins x = some (.type n)) (hg : glB sc x = true) (hn : x ≠ "__name__") (hdb : (x == ("__debug__" : Str)) = false) (q : Q (.ty n) M) : SE X G (.Name x pos) env M Q := se_bltn (gl_of d hg) hm hv q hn hdb
theorem dn_call (d : DN X N sc k) {C : Con} {j : Nat} (F : Fn X.prog X.w X.K X.mg X.base x j C) (hg : glB sc x = true) (hkj : j ≤ k) (hdb : (x == ("__debug__" : Str)) = false)
    (he : starEach (e :: es) X.env = (false, eval e X.env) :: starEach es X.env) (hpl : (backTo pos (starEach es X.env)).any (·.1) = false) (h : SA X G (e :: es) env M fun ss M1 => C ss M1 Q E0c) : SE X G (.Call (.Name x p) (e :: es) [] pos) env M Q := se_call F d.room (gl_of d hg) h hkj hdb he hpl
theorem dn_callX (d : DN X N sc k) {C : Con} {j : Nat} {Z : Ev → Addr → S → Mem → Prop} (hz : Wish X G Z) (F : Fn X.prog X.w X.K X.mg X.base x j C) (hg : glB sc x = true) (hkj : j ≤ k) (hdb : (x == ("__debug__" : Str)) = false)
    (he : starEach (e :: es) X.env = (false, eval e X.env) :: starEach es X.env) (hpl : (backTo pos (starEach es X.env)).any (·.1) = false) (h : SA X G (e :: es) env M fun ss M1 => C ss M1 Q (Z env)) : SE X G (.Call (.Name x p) (e :: es) [] pos) env M Q := se_callX F d.room hz (gl_of d hg) h hkj hdb he hpl
/-- the scope of a comprehension's block -/
def blkS (sc scope : Scope) : Scope := { scope with names := scope.names.map fun (n, k) => if (k == .free && sc.kind == .function && sc.names.lookup n == some .cell) then (n, .cell) else (n, k) }
theorem DN.blk (d : DN X N sc k) {scope : Scope} {s : Shared} {H : Hp} {C : Addr} {cl : List (Str × Addr)} {fp : List Addr} : DN (X.blk s H scope (compEnvC scope cl C X.env) fp) N (blkS sc scope) k := by
  refine ⟨d.hN, ?_, d.calm, d.room⟩
  obtain ⟨_, h, _, _⟩ := d
  subst h
  rfl
def loS (scope : Scope) (x : Str) : Bool := match scope.names.lookup x with | some .local => true | _ => false
theorem dx_lc (d : DN X N sc k) (nd : N.Nodup) (i : Nat) {elt iter : Expr} {scope : Scope} {x : Str} {px : Pos} (hi : (decide (N[i]? = some x) && loS scope x && blkC N sc scope [(x, i)]) = true) (hs : ∀ x, foldedSetIterable iter X.env x = pure x)
    (h : SI X G (.Name x px) iter env M fun xs Gd M1 => ∀ D, M1 D = none → ∃ I : Nat → List S → Mem → Prop, I 0 [] (updM M1 D (.lst [])) ∧ (∀ j acc M', M' D = some (.lst acc) → I j acc M' → Gd M') ∧
      (∀ j s acc M', xs[j]? = some s → M' D = some (.lst acc) → I j acc M' → ∀ (s0 : Shared) (H0 : Hp) (C0 : Addr) (cl0 : List (Str × Addr)) (fp0 : List Addr), DN (X.blk s0 H0 scope (compEnvC scope cl0 C0 X.env) fp0) N (blkS sc scope) k → SE (X.blk s0 H0 scope (compEnvC scope cl0 C0 X.env) fp0) G elt (env.set i (some s)) M' (LcQ D acc (I (j + 1)))) ∧ ∀ acc M', M' D = some (.lst acc) → I xs.length acc M' → Q (.ptr D) M') :
    SE X G (.ListComp elt [⟨.Name x px, iter, [], 0⟩] scope pos) env M Q := by
  simp only [Bool.and_eq_true, decide_eq_true_eq] at hi
  obtain ⟨⟨h1, h2⟩, h3⟩ := hi
  refine se_lc (own := [(x, i)]) (i := i) ?_ (by rw [d.hN]; exact nd) (by rw [d.hN]; exact h1) (by simp) (by rw [d.hN, d.sc]; exact blkOk_by h3) ?_ d.calm hs
  · intro σ H R
    obtain ⟨wi, p1, q1⟩ := h σ H R
    refine ⟨_, pi_S (G := G), env, M, _, R, h, fun J H' ⟨xs, Gd, M1, k1, m1, g1, z⟩ => ⟨xs, Gd, M1, k1, m1, g1, fun D hD => ?_⟩⟩
    obtain ⟨I, i0, ig, turn, fin⟩ := z D hD
    refine ⟨I, i0, ig, fun j s acc M' e1 e2 e3 => fun s0 H0 C0 cl0 fp0 => ?_, fin⟩
    have t := turn j s acc M' e1 e2 e3 s0 H0 C0 cl0 fp0 d.blk
    have e : (wipeE env ([(x, i)].map (·.2))).set i (some s) = env.set i (some s) := by
      show (env.set i none).set i (some s) = env.set i (some s)
      exact List.set_set ..
    rw [e]
    exact t
  · unfold loS at h2
    split at h2
    · assumption
    · cases h2
end
end Sy

set_option Elab.async false
set_option linter.all false
set_option maxRecDepth 100000
/-! S8: chains of comparisons; names of built-ins; small helps. -/
namespace Sy
open PySem PySem.Spec PyProof.Rows L2
theorem bf_len : bootBuiltins "len" = some (.builtin "len") := by decide +kernel
theorem bf_abs : bootBuiltins "abs" = some (.builtin "abs") := by decide +kernel
theorem bf_max : bootBuiltins "max" = some (.builtin "max") := by decide +kernel
theorem bf_min : bootBuiltins "min" = some (.builtin "min") := by decide +kernel
theorem bf_all : bootBuiltins "all" = some (.builtin "all") := by decide +kernel
theorem bf_any : bootBuiltins "any" = some (.builtin "any") := by decide +kernel
theorem bf_sum : bootBuiltins "sum" = some (.builtin "sum") := by decide +kernel
theorem bf_isinstance : bootBuiltins "isinstance" = some (.builtin "isinstance") := by decide +kernel
theorem bt_int : bootBuiltins "int" = some (.type "int") := by decide +kernel
theorem bt_bool : bootBuiltins "bool" = some (.type "bool") := by decide +kernel
theorem bt_str : bootBuiltins "str" = some (.type "str") := by decide +kernel
theorem bt_tuple : bootBuiltins "tuple" = some (.type "tuple") := by decide +kernel
theorem bt_list : bootBuiltins "list" = some (.type "list") := by decide +kernel
theorem kb_int_int : kitB "int" "int" = some true := by decide +kernel
theorem kb_bool_int : kitB "bool" "int" = some true := by decide +kernel
theorem kb_int_bool : kitB "int" "bool" = some false := by decide +kernel
theorem kb_bool_bool : kitB "bool" "bool" = some true := by decide +kernel
section
variable {X : Cx} {G : Hp} {env : Ev} {M : Mem} {D : SD} {Q : QS} {a b c e o : Expr} {es : List Expr} {pos : Pos} {N : List Str} {sc : Scope} {k : Nat} {x : Str} {p : Pos}
/-- a op b op' c -/
def RCh (X : Cx) (G : Hp) (op op' : CmpOp) (c : Expr) (env : Ev) (x y : S) (M : Mem) (Q : QS) : Prop := RC X op x y M fun z M3 => ∃ k, z = .bl k ∧ (k = false → Q (.bl false) M3) ∧ (k = true → SE X G c env M3 fun u M4 => RC X op' y u M4 Q)
theorem chain_go {op op' : CmpOp} {σ : L2.St} {H : Hp} {T : VK} (R : Rel X.K G env M σ H) (h : SE X G a env M fun x M1 => SE X G b env M1 fun y M2 => RCh X G op op' c env x y M2 Q) (hT : ∀ z H', PostE X H Q z H' → T z H') : tChain (anyO X (compareOp op)) (anyO X (compareOp op')) (tS X G a) (tS X G b) (tS X G c) σ H T :=
  tS_go R h fun x M1 v H1 k1 rv R1 q1 => tS_go R1 q1 fun y M2 w H2 k2 rw R2 q2 => by
    obtain ⟨r, hr, q⟩ := q2 v w H2 R2.mem (rv.up k2) rw
    refine ⟨_, r, hr, q, fun z H3 p => ?_⟩
    obtain ⟨s, M3, k3, rs, m3, k, e, qf, qt⟩ := p
    subst e
    cases rs
    refine ⟨k, rfl, ?_⟩
    cases k with
    | false =>
      refine iteF (hT _ _ ?_)
      exact ⟨.bl false, M3, k1.trans (k2.trans k3), .bl _, m3, qf rfl⟩
    | true =>
      refine iteT (tS_go (R2.step k3 m3) (qt rfl) fun u M4 w4 H4 k4 r4 R4 q4 => ?_)
      obtain ⟨r', hr', q'⟩ := q4 w w4 H4 R4.mem (rw.up (k3.trans k4)) r4
      exact ⟨_, r', hr', q', fun z H' p => hT _ _ (p.back (k1.trans (k2.trans (k3.trans k4))))⟩
theorem se_chain {op op' : CmpOp} (h : SE X G a env M fun x M1 => SE X G b env M1 fun y M2 => RCh X G op op' c env x y M2 Q)
    (hm : lastMarks [op, op'] [b, c] = false := by with_unfolding_all rfl) : SE X G (.Compare a [op, op'] [b, c] pos) env M Q := fun σ H R =>
  ⟨_, pe_chain opr_any opr_any (pe_S (G := G)) (pe_S (G := G)) (pe_S (G := G)) hm, chain_go R h fun _ _ p => p⟩
theorem st_chain {op op' : CmpOp} {Q : Bool → Mem → Prop} (h : SE X G a env M fun x M1 => SE X G b env M1 fun y M2 => RCh X G op op' c env x y M2 (QB Q))
    (hm : lastMarks [op, op'] [b, c] = false := by with_unfolding_all rfl) : ST X G (.Compare a [op, op'] [b, c] pos) env M Q := fun σ H R =>
  ⟨_, pt_chain opr_any opr_any (pe_S (G := G)) (pe_S (G := G)) (pe_S (G := G)) hm, chain_go R h fun _ _ p => QB.post Keep.refl p⟩
/-- ints in a chain -/
theorem rch_leI {op' : CmpOp} {i j : Int} (qf : ¬ i ≤ j → Q (.bl false) M) (qt : i ≤ j → SE X G c env M fun u M4 => RC X op' (.int j) u M4 Q) : RCh X G .LtE op' c env (.int i) (.int j) M Q :=
  rc_leI ⟨_, rfl, fun z => qf (of_decide_eq_false z), fun z => qt (of_decide_eq_true z)⟩
theorem rch_ltI {op' : CmpOp} {i j : Int} (qf : ¬ i < j → Q (.bl false) M) (qt : i < j → SE X G c env M fun u M4 => RC X op' (.int j) u M4 Q) : RCh X G .Lt op' c env (.int i) (.int j) M Q :=
  rc_ltI ⟨_, rfl, fun z => qf (of_decide_eq_false z), fun z => qt (of_decide_eq_true z)⟩
end
end Sy

set_option Elab.async false
set_option linter.all false
set_option maxRecDepth 100000
/-! S9: values whose kind is known; stores within stores; comprehensions. -/
namespace Sy
open PySem PySem.Spec PyProof.Rows L2
/-- a value whose kind is known -/
inductive Kn (M : Mem) : S → Prop
  | non : Kn M .non
  | bl (b : Bool) : Kn M (.bl b)
  | int (i : Int) : Kn M (.int i)
  | str (x : Str) : Kn M (.str x)
  | ptr {p : Addr} {o : MO} (h : M p = some o) : Kn M (.ptr p)
  | tup {ss : List S} (h : ∀ s, s ∈ ss → Kn M s) : Kn M (.tup ss)
  | rdl (ss : List S) : Kn M (.rdl ss)
theorem Kn.ty {M : Mem} {s : S} (h : Kn M s) : ∃ t, tyS M s = some t ∧ (t = "NoneType" ∨ t = "bool" ∨ t = "int" ∨ t = "str" ∨ t = "list" ∨ t = "tuple" ∨ t = "dict") := by
  cases h with
  | non => exact ⟨_, rfl, by simp⟩
  | bl b => exact ⟨_, rfl, by simp⟩
  | int i => exact ⟨_, rfl, by simp⟩
  | str x => exact ⟨_, rfl, by simp⟩
  | @ptr p o h =>
    unfold tyS
    dsimp only
    rw [h]
    cases o with
    | lst _ => exact ⟨_, rfl, by simp⟩
    | dK _ => exact ⟨_, rfl, by simp⟩
  | tup h => exact ⟨_, rfl, by simp⟩
  | rdl ss => exact ⟨_, rfl, by simp⟩
def isInt : S → Bool
  | .int _ => true
  | _ => false
def isBl : S → Bool
  | .bl _ => true
  | _ => false
def isTup : S → Bool
  | .tup _ => true
  | _ => false
section
variable {X : Cx} {M : Mem} {Q : QS}
theorem rb_isInt {s : S} (h : Kn M s) (q : Q (.bl (isInt s || isBl s)) M) : RB X (.builtin "isinstance") [s, .ty "int"] M Q := by
  cases h with
  | non => exact rb_isi rfl (by decide +kernel : kitB "NoneType" "int" = some false) q
  | bl b => exact rb_isi rfl kb_bool_int q
  | int i => exact rb_isi rfl kb_int_int q
  | str x => exact rb_isi rfl (by decide +kernel : kitB "str" "int" = some false) q
  | @ptr p o h =>
    cases o with
    | lst _ => exact rb_isi (t := "list") (by unfold tyS; dsimp only; rw [h]) (by decide +kernel : kitB "list" "int" = some false) q
    | dK _ => exact rb_isi (t := "dict") (by unfold tyS; dsimp only; rw [h]) (by decide +kernel : kitB "dict" "int" = some false) q
  | tup h => exact rb_isi rfl (by decide +kernel : kitB "tuple" "int" = some false) q
  | rdl ss => exact rb_isi rfl (by decide +kernel : kitB "list" "int" = some false) q
theorem rb_isBool {s : S} (h : Kn M s) (q : Q (.bl (isBl s)) M) : RB X (.builtin "isinstance") [s, .ty "bool"] M Q := by
  cases h with
  | non => exact rb_isi rfl (by decide +kernel : kitB "NoneType" "bool" = some false) q
  | bl b => exact rb_isi rfl kb_bool_bool q
  | int i => exact rb_isi rfl kb_int_bool q
  | str x => exact rb_isi rfl (by decide +kernel : kitB "str" "bool" = some false) q
  | @ptr p o h =>
    cases o with
    | lst _ => exact rb_isi (t := "list") (by unfold tyS; dsimp only; rw [h]) (by decide +kernel : kitB "list" "bool" = some false) q
    | dK _ => exact rb_isi (t := "dict") (by unfold tyS; dsimp only; rw [h]) (by decide +kernel : kitB "dict" "bool" = some false) q
  | tup h => exact rb_isi rfl (by decide +kernel : kitB "tuple" "bool" = some false) q
  | rdl ss => exact rb_isi rfl (by decide +kernel : kitB "list" "bool" = some false) q
theorem rb_isTup {s : S} (h : Kn M s) (q : Q (.bl (isTup s)) M) : RB X (.builtin "isinstance") [s, .ty "tuple"] M Q := by
  cases h with
  | non => exact rb_isi rfl (by decide +kernel : kitB "NoneType" "tuple" = some false) q
  | bl b => exact rb_isi rfl (by decide +kernel : kitB "bool" "tuple" = some false) q
  | int i => exact rb_isi rfl (by decide +kernel : kitB "int" "tuple" = some false) q
  | str x => exact rb_isi rfl (by decide +kernel : kitB "str" "tuple" = some false) q
  | @ptr p o h =>
    cases o with
    | lst _ => exact rb_isi (t := "list") (by unfold tyS; dsimp only; rw [h]) (by decide +kernel : kitB "list" "tuple" = some false) q
    | dK _ => exact rb_isi (t := "dict") (by unfold tyS; dsimp only; rw [h]) (by decide +kernel : kitB "dict" "tuple" = some false) q
  | tup h => exact rb_isi rfl (by decide +kernel : kitB "tuple" "tuple" = some true) q
  | rdl ss => exact rb_isi rfl (by decide +kernel : kitB "list" "tuple" = some false) q
end
theorem SE.mono {X : Cx} {G : Hp} {e : Expr} {env : Ev} {M : Mem} {Q Q' : QS} (h : SE X G e env M Q) (k : ∀ s M', Q s M' → Q' s M') : SE X G e env M Q' := fun σ H R =>
  ⟨_, pe_S (G := G), env, M, Q, R, h, fun _ _ p => p.mono k⟩
/-- a store within another one -/
def Sub (M M' : Mem) : Prop := ∀ a o, M a = some o → M' a = some o
theorem Sub.refl {M : Mem} : Sub M M := fun _ _ h => h
theorem Sub.trans {M M1 M2 : Mem} (a : Sub M M1) (b : Sub M1 M2) : Sub M M2 := fun c o h => b c o (a c o h)
theorem Sub.new {M : Mem} {p : Addr} {o : MO} (h : M p = none) : Sub M (updM M p o) := fun a u e => by rw [updM_ne (neM e h)]; exact e
theorem Sub.put {M M' : Mem} (s : Sub M M') (p : Addr) (o : MO) : Sub (updM M p o) (updM M' p o) := fun a u e => by
  by_cases h : a = p
  · rw [h, updM_same] at e; rw [h, updM_same]; exact e
  · rw [updM_ne h] at e; rw [updM_ne h]; exact s a u e
theorem Sub.mem {K : PySem.W.Frag} {M M' : Mem} {H : Hp} (s : Sub M M') (m : MemR K M' H) : MemR K M H := fun a o e => m a o (s a o e)
theorem Sub.free {M M' : Mem} {p : Addr} (s : Sub M M') (h : M' p = none) : M p = none := by
  cases e : M p with
  | none => rfl
  | some o => rw [s p o e] at h; cases h
/-- what is no longer wanted of the store may go -/
def FG (Q : QS) : QS := fun s M' => ∃ M, Sub M M' ∧ Q s M
theorem se_fg {X : Cx} {G : Hp} {e : Expr} {env : Ev} {M : Mem} {Q : QS} (h : SE X G e env M (FG Q)) : SE X G e env M Q := fun σ H R =>
  ⟨_, pe_S (G := G), env, M, _, R, h, fun _ _ ⟨s, M', a, b, c, M'', sb, q⟩ => ⟨s, M'', a, b, sb.mem c, q⟩⟩
/-- a comprehension whose items are reckoned without a change -/
theorem lc_map {X : Cx} {G : Hp} {env : Ev} {M : Mem} {Q : QS} {elt : Expr} {scope sc : Scope} {N : List Str} {k i : Nat} {xs : List S} {Gd : Mem → Prop} (f : S → S) (hl : xs.length < sizeLine) (hg : ∀ M', Sub M M' → Gd M')
    (turn : ∀ D M', M D = none → Sub M M' → ∀ s, s ∈ xs → ∀ (s0 : Shared) (H0 : Hp) (C0 : Addr) (cl0 : List (Str × Addr)) (fp0 : List Addr), DN (X.blk s0 H0 scope (compEnvC scope cl0 C0 X.env) fp0) N (blkS sc scope) k →
      SE (X.blk s0 H0 scope (compEnvC scope cl0 C0 X.env) fp0) G elt (env.set i (some s)) M' fun y M2 => y = f s ∧ Sub M' M2)
    (fin : ∀ D M', M D = none → Sub M M' → M' D = some (.lst (xs.map f)) → Q (.ptr D) M') :
    ∀ D, M D = none → ∃ I : Nat → List S → Mem → Prop, I 0 [] (updM M D (.lst [])) ∧ (∀ j acc M', M' D = some (.lst acc) → I j acc M' → Gd M') ∧
      (∀ j s acc M', xs[j]? = some s → M' D = some (.lst acc) → I j acc M' → ∀ (s0 : Shared) (H0 : Hp) (C0 : Addr) (cl0 : List (Str × Addr)) (fp0 : List Addr), DN (X.blk s0 H0 scope (compEnvC scope cl0 C0 X.env) fp0) N (blkS sc scope) k → SE (X.blk s0 H0 scope (compEnvC scope cl0 C0 X.env) fp0) G elt (env.set i (some s)) M' (LcQ D acc (I (j + 1)))) ∧ ∀ acc M', M' D = some (.lst acc) → I xs.length acc M' → Q (.ptr D) M' := by
  intro D hD
  refine ⟨fun j acc M' => acc = (xs.take j).map f ∧ Sub M M', ⟨rfl, Sub.new hD⟩, fun j acc M' _ ⟨_, e⟩ => hg M' e, fun j s acc M' es eD ⟨ea, eM⟩ s0 H0 C0 cl0 fp0 dn => ?_, fun acc M' eD ⟨ea, eM⟩ => ?_⟩
  · refine (turn D M' hD eM s (List.mem_of_getElem? es) s0 H0 C0 cl0 fp0 dn).mono fun y M2 z => ?_
    obtain ⟨e1, e2⟩ := z
    subst e1
    have hj : j < xs.length := (List.getElem?_eq_some_iff.mp es).1
    refine ⟨e2 _ _ eD, ?_, ?_, fun a o h => ?_⟩
    · rw [ea, List.length_map, List.length_take]
      omega
    · rw [ea, List.take_add_one, es, List.map_append]
      rfl
    · rw [updM_ne (neM h hD)]
      exact e2 _ _ (eM _ _ h)
  · rw [List.take_length] at ea
    rw [ea] at eD
    exact fin D M' hD eM eD
theorem Kn.up {M M' : Mem} {s : S} (h : Kn M s) (k : ∀ p, M p ≠ none → M' p ≠ none) : Kn M' s := by
  induction h with
  | non => exact .non
  | bl b => exact .bl b
  | int i => exact .int i
  | str x => exact .str x
  | @ptr p o h =>
    have z := k p (by rw [h]; exact fun z => nomatch z)
    cases e : M' p with
    | none => exact absurd e z
    | some o' => exact .ptr e
  | tup _ ih => exact .tup ih
  | rdl ss => exact .rdl ss
theorem Kn.put {M : Mem} {s : S} {p : Addr} {o : MO} (h : Kn M s) : Kn (updM M p o) s := h.up fun q hq => by
  by_cases e : q = p
  · rw [e, updM_same]; exact fun z => nomatch z
  · rw [updM_ne e]; exact hq
theorem Kn.sub {M M' : Mem} {s : S} (h : Kn M s) (k : Sub M M') : Kn M' s := h.up fun p hp => by
  cases e : M p with
  | none => exact absurd e hp
  | some o => rw [k p o e]; exact fun z => nomatch z
/-- [elt for x in iter], each item reckoned by f without a change of what stands -/
theorem dx_map {X : Cx} {G : Hp} {env : Ev} {M : Mem} {Q : QS} {N : List Str} {sc : Scope} {k : Nat} (d : DN X N sc k) (nd : N.Nodup) (i : Nat) {elt iter : Expr} {scope : Scope} {x : Str} {px pos : Pos} (hi : (decide (N[i]? = some x) && loS scope x && blkC N sc scope [(x, i)]) = true) (hs : ∀ x, foldedSetIterable iter X.env x = pure x)
    (h : SI X G (.Name x px) iter env M fun xs Gd M1 => ∃ f : S → S, xs.length < sizeLine ∧ (∀ M', Sub M1 M' → Gd M') ∧ (∀ D M', M1 D = none → Sub M1 M' → ∀ s, s ∈ xs → ∀ (s0 : Shared) (H0 : Hp) (C0 : Addr) (cl0 : List (Str × Addr)) (fp0 : List Addr), DN (X.blk s0 H0 scope (compEnvC scope cl0 C0 X.env) fp0) N (blkS sc scope) k →
      SE (X.blk s0 H0 scope (compEnvC scope cl0 C0 X.env) fp0) G elt (env.set i (some s)) M' fun y M2 => y = f s ∧ Sub M' M2) ∧ ∀ D M', M1 D = none → Sub M1 M' → M' D = some (.lst (xs.map f)) → Q (.ptr D) M') :
    SE X G (.ListComp elt [⟨.Name x px, iter, [], 0⟩] scope pos) env M Q := by
  refine dx_lc d nd i hi hs fun σ H R => ⟨_, pi_S (G := G), env, M, _, R, h, fun J H' ⟨xs, Gd, M1, k1, m1, g1, f, a, b, c, e⟩ => ⟨xs, Gd, M1, k1, m1, g1, ?_⟩⟩
  exact lc_map f a b c e
theorem inV_ints (i : Int) : ∀ ns : List Int, inV (.int i) (ns.map V.int) = ns.contains i
  | [] => rfl
  | a :: r => by
    have ih := inV_ints i r
    unfold inV at ih ⊢
    rw [List.map_cons, List.any_cons, ih, List.contains_cons]
    have e : eqV (V.int a) (.int i) = (i == a) := by
      show (a == i) = (i == a)
      exact Bool.beq_comm
    rw [e]
theorem rc_notInI {X : Cx} {M : Mem} {Q : QS} {i : Int} {ns : List Int} (q : Q (.bl (!ns.contains i)) M) : RC X .NotIn (.int i) (.tup (ns.map S.int)) M Q := fun v w H m r1 r2 => by
  cases r1
  cases r2 with
  | tup h1 h2 =>
    have e := rvs_ints h2
    subst e
    refine ⟨_, op_notIn_seq, _, _, rfl, .inr h1.sq, rfl, ?_, ?_⟩
    · rw [List.all_eq_true]
      intro x hx
      obtain ⟨n, _, rfl⟩ := List.mem_map.mp hx
      rfl
    · rw [inV_ints]
      exact pack (.bl _) m q
end Sy

set_option Elab.async false
set_option linter.all false
set_option maxRecDepth 100000
/-! S10: calls by keywords; deep ==; dict displays; is of truth values. -/
namespace Sy
open PySem PySem.Spec PyProof.Rows L2
/-- a call f(k = v, ..), keywords alone, in the parameters' order -/
structure FnK (P : Program) (w : World) (K : PySem.W.Frag) (mg : Str → Option Value) (base : Heap) (nm : Str) (k : Nat) (ps : List Str) (C : Con) : Prop where
  ex : ∃ f fd, FnOk P w K mg base (L2.CX P w) k f fd ps (SpC K C) ∧ mg nm = some (.ref f) ∧ PySem.W.keepIn K (.ref f) = true ∧ ∀ (s : Shared) (ws : List Value), K.In s.heap → ws.length = ps.length → BindsTo s fd ⟨[], ps.zip ws⟩ (ps.zip ws)
section
variable {X : Cx} {G : Hp} {env : Ev} {M : Mem} {D : SD} {Q : QS} {a b c e o : Expr} {es : List Expr} {pos : Pos} {N : List Str} {sc : Scope} {k : Nat} {x : Str} {p : Pos}
def SK (X : Cx) (G : Hp) (es : List Keyword) (env : Ev) (M : Mem) (Q : List S → Mem → Prop) : Prop := ∀ σ H, Rel X.K G env M σ H → ∃ t, PK X es t ∧ t σ H (PostA X H Q)
def tSK (X : Cx) (G : Hp) (es : List Keyword) : TA := fun σ H R => ∃ env M Q, Rel X.K G env M σ H ∧ SK X G es env M Q ∧ ∀ v H', PostA X H Q v H' → R v H'
theorem pk_S {es : List Keyword} : PK X es (tSK X G es) := ⟨fun pos pins s σ H R I h => by
  obtain ⟨env, M, Q, r, hs, k⟩ := h
  obtain ⟨t, p, ht⟩ := hs σ H r
  exact thn (p.run pos pins s σ H _ I ht) fun u s1 ⟨v, H', I', rv, q⟩ => ⟨v, H', I', rv, k v H' q⟩⟩
theorem sk_nil {Q : List S → Mem → Prop} (q : Q [] M) : SK X G [] env M Q := fun σ H R => ⟨_, pk_nil, [], M, Keep.refl, .nil, R.mem, q⟩
theorem sk_cons {Q : List S → Mem → Prop} {nm : Option Str} {kpos : Pos} {ks : List Keyword} (h : SE X G e env M fun x M1 => SK X G ks env M1 fun xs M2 => Q (x :: xs) M2) : SK X G (⟨nm, e, kpos⟩ :: ks) env M Q := fun σ H R =>
  ⟨_, pk_cons (te := tS X G e) pe_S pk_S, tS_go R h fun x M1 v H1 k1 rv R1 q1 => by
    obtain ⟨t, p, q⟩ := q1 σ H1 R1
    exact ⟨env, M1, _, R1, q1, fun xs H2 ⟨ss, M2, k2, rvs, m2, q2⟩ => ⟨x :: ss, M2, k1.trans k2, .cons (rv.up k2) rvs, m2, q2⟩⟩⟩
theorem dn_kw (d : DN X N sc k) {C : Con} {j : Nat} {ps : List Str} {kws : List Keyword} (F : FnK X.prog X.w X.K X.mg X.base x j ps C) (hg : glB sc x = true) (hkj : j ≤ k) (hdb : (x == ("__debug__" : Str)) = false)
    (hall : (backToKw pos (keywordEach kws X.env)).all (·.1.isSome) = true) (hks : (backToKw pos (keywordEach kws X.env)).filterMap (·.1) = ps) (hpl : ((backTo pos (starEach [] X.env)).any (·.1) || (backToKw pos (keywordEach kws X.env)).any (·.1.isNone)) = false)
    (h : SK X G kws env M fun ss M1 => C ss M1 Q E0c) : SE X G (.Call (.Name x p) [] kws pos) env M Q := by
  obtain ⟨f, fd, F, hm, hk, hb⟩ := F.ex
  have F := F.mono hkj
  have hg := gl_of d hg
  intro σ H R
  refine ⟨fun σ H T => tSK X G kws σ H fun zs H2 => SpC X.K C zs H2 T E0, ⟨fun pins s σ H T I h => ?_⟩, env, M, _, R, h, fun vs H1 ⟨ss, M1, k1, rvs, m1, q⟩ => ⟨ss, M1, Q, E0c, rvs, m1, q, fun s M' v H' k2 rv m' q' => ⟨s, M', k1.trans k2, rv, m', q'⟩, fun _ _ _ _ _ _ _ _ _ _ z => z.elim⟩⟩
  refine wpAny_Call_Name_kw (ld_glob I hg hm ?_ hdb)
  refine PySem.W.callWith_KW0 (h₀ := X.base) I.ok.mod.kin hk hall ?_ hpl
  refine thn ((pk_S (G := G)).run pos pins s σ H _ I h) fun ws s2 ⟨zs, H2, I2, rz, q2⟩ => ⟨I2.kIn, ?_⟩
  rw [hks]
  have hl : ws.length = ps.length := by rw [← rz.length]; exact F.len _ _ _ _ q2
  have hb2 := hb s2 ws I2.kIn hl
  refine wpAny_call (codeAny_mono (F.run X.A X.stack s2 H2 ⟨[], ps.zip ws⟩ ws zs T E0 d.room I2.env0 hb2 rz q2) fun r s' hq => ?_)
  cases r with
  | error e => exact passL pins σ H2 s2 e s' I2 hq
  | ok fl =>
    cases fl with
    | ret u => exact I2.after hq
    | next => exact False.elim hq
    | brk => exact False.elim hq
    | cont => exact False.elim hq
theorem rc_isB {i j : Bool} (q : Q (.bl (decide (i = j))) M) : RC X .Is (.bl i) (.bl j) M Q := fun v w H m r1 r2 => by
  cases r1; cases r2; exact ⟨_, op_isBl, i, j, rfl, rfl, pack (.bl _) m q⟩
theorem rc_notB {i j : Bool} (q : Q (.bl (!decide (i = j))) M) : RC X .IsNot (.bl i) (.bl j) M Q := fun v w H m r1 r2 => by
  cases r1; cases r2; exact ⟨_, op_notBl, i, j, rfl, rfl, pack (.bl _) m q⟩
theorem se_dict0 (q : ∀ p, M p = none → Q (.ptr p) (updM M p (.dK []))) : SE X G (.Dict [] [] pos) env M Q := fun σ H R =>
  ⟨_, pe_dnewK, fun p hp => ⟨.ptr p, _, keep_new hp, .ptr p, R.mem.put (u := .dK []) (keep_new hp) ⟨[], upd_same, .nil⟩, q p (R.mem.free hp)⟩⟩
/-! ### data at any depth -/
mutual
inductive Dat (M : Mem) : S → PyData → Prop
  | non : Dat M .non .none
  | bl (b : Bool) : Dat M (.bl b) (.bool b)
  | int (i : Int) : Dat M (.int i) (.int i)
  | str (x : Str) : Dat M (.str x) (.str x)
  | tup {ss : List S} {ds : List PyData} (h : Dats M ss ds) : Dat M (.tup ss) (.tuple ds)
  | lst {p : Addr} {ss : List S} {ds : List PyData} (e : M p = some (.lst ss)) (h : Dats M ss ds) : Dat M (.ptr p) (.list ds)
inductive Dats (M : Mem) : List S → List PyData → Prop
  | nil : Dats M [] []
  | cons {s : S} {d : PyData} {ss : List S} {ds : List PyData} (h : Dat M s d) (t : Dats M ss ds) : Dats M (s :: ss) (d :: ds)
end
section
variable {K : PySem.W.Frag} {H : Hp}
mutual
theorem Dat.dp (m : MemR K M H) : ∀ (d : PyData) (s : S) (v : V), Dat M s d → RV K H s v → Dp K H v d
  | .none, _, _, h, r => by cases h; cases r; exact .non
  | .bool b, _, _, h, r => by cases h; cases r; exact .bl b
  | .int i, _, _, h, r => by cases h; cases r; exact .int i
  | .str x, _, _, h, r => by cases h; cases r; exact .str x
  | .tuple ds, _, _, h, r => by
    cases h with
    | tup h => cases r with
      | tup a b => exact .tup a.sq (Dats.dp m ds _ _ h b)
  | .list ds, _, _, h, r => by
    cases h with
    | lst e h =>
      cases r
      obtain ⟨vs, h1, h2⟩ := m _ _ e
      exact .lst (SqL.of h1) (Dats.dp m ds _ _ h h2)
  | .dict _, _, _, h, _ => by cases h
theorem Dats.dp (m : MemR K M H) : ∀ (ds : List PyData) (ss : List S) (vs : List V), Dats M ss ds → RVs K H ss vs → DpAll K H vs ds
  | [], _, _, h, r => by cases h; cases r; exact .nil
  | d :: ds, _, _, h, r => by
    cases h with
    | cons a b => cases r with
      | cons c e => exact .cons (Dat.dp m d _ _ a c) (Dats.dp m ds _ _ b e)
end
end
theorem rc_eqD {s t : S} {d e : PyData} (dn : DN X N sc k) (hd : Dat M s d) (he : Dat M t e) (sd : SeqAt.shaped d = true) (se : SeqAt.shaped e = true) (q : Q (.bl (PyData.eqv d e)) M) : RC X .Eq s t M Q := fun v w H m r1 r2 =>
  ⟨_, op_eqD dn.room.units, d, e, hd.dp m _ _ _ r1, he.dp m _ _ _ r2, sd, se, pack (.bl _) m q⟩
theorem rc_neD {s t : S} {d e : PyData} (dn : DN X N sc k) (hd : Dat M s d) (he : Dat M t e) (sd : SeqAt.shaped d = true) (se : SeqAt.shaped e = true) (q : Q (.bl (!PyData.eqv d e)) M) : RC X .NotEq s t M Q := fun v w H m r1 r2 =>
  ⟨_, op_neD dn.room.units, d, e, hd.dp m _ _ _ r1, he.dp m _ _ _ r2, sd, se, pack (.bl _) m q⟩
end
end Sy

set_option Elab.async false
set_option linter.all false
set_option maxRecDepth 100000
/-! S11: name = [.. for ..]. -/
namespace Sy
open PySem PySem.Spec PyProof.Rows L2
section
variable {X : Cx} {G : Hp} {env : Ev} {M : Mem} {D : SD} {Q : QS} {pos : Pos} {N : List Str} {sc : Scope} {k : Nat}
/-- what a comprehension over xs wants -/
def LcW (X : Cx) (G : Hp) (env : Ev) (scope : Scope) (vs : List Nat) (i : Nat) (elt : Expr) (Q : QS) (xs : List S) (Gd : Mem → Prop) (M1 : Mem) : Prop := ∀ D, M1 D = none → ∃ I : Nat → List S → Mem → Prop, I 0 [] (updM M1 D (.lst [])) ∧ (∀ j acc M', M' D = some (.lst acc) → I j acc M' → Gd M') ∧
      (∀ j s acc M', xs[j]? = some s → M' D = some (.lst acc) → I j acc M' → SEb X G scope elt ((wipeE env vs).set i (some s)) M' (LcQ D acc (I (j + 1)))) ∧ ∀ acc M', M' D = some (.lst acc) → I xs.length acc M' → Q (.ptr D) M'
theorem tlc_go {tg elt iter : Expr} {scope : Scope} {vs : List Nat} {i : Nat} {σ : L2.St} {H : Hp} {T : VK} (R : Rel X.K G env M σ H) (h : SI X G tg iter env M (LcW X G env scope vs i elt Q)) (hm : i ∈ vs) (hT : ∀ v H', PostE X H Q v H' → T v H') :
    tLc (tSI X G tg iter) (gName i) tYes (tSEb X G scope elt) vs σ H T := by
  refine ⟨env, M, _, R, h, fun J H1 ⟨xs, Gd, M1, k1, m1, gv, q⟩ D hD => ?_⟩
  obtain ⟨I, i0, ig, turn, fin⟩ := q D (m1.free hD)
  refine ⟨fun j m H' => m = xs.length - j ∧ j ≤ xs.length ∧ ∃ acc M', MemR X.K M' H' ∧ Keep X.K H1 H' ∧ M' D = some (.lst acc) ∧ I j acc M', ⟨xs.length, rfl, Nat.zero_le _, [], _, put_lst m1 hD .nil, keep_new hD, updM_same, i0⟩, ?_⟩
  rintro j m H' ⟨rfl, hj, acc, M', m', k', hMD, hI⟩
  by_cases hlt : j < xs.length
  · refine .inr ⟨gv.go j M' H' m' k' (ig _ _ _ hMD hI) hlt, fun H2 => ∃ acc M', MemR X.K M' H2 ∧ Keep X.K H1 H2 ∧ M' D = some (.lst acc) ∧ I (j + 1) acc M', fun H2 z => ⟨xs.length - (j + 1), by omega, rfl, hlt, z⟩, fun v H'' y => ?_⟩
    obtain ⟨s, es, rs, k2, m2⟩ := gv.yld j M' H' v H'' m' k' (ig _ _ _ hMD hI) hlt y
    have kk := k1.trans (k'.trans k2)
    refine ⟨wipe_set hm, ?_⟩
    dsimp only [tYes]
    rw [if_pos rfl]
    refine ⟨_, M', _, ?_, turn j s acc M' es hMD hI, fun w H3 p => ?_⟩
    · exact (((R.step kk m2).wipe _).set rs i)
    · obtain ⟨us, a1, a2, acc', M3, a3, a4, a5, a6⟩ := lcq_ok (k'.trans k2) p
      exact ⟨us, a1, a2, acc', M3, a3, a4, a5, a6⟩
  · have e : j = xs.length := by omega
    subst e
    exact .inl ⟨gv.stop M' H' m' k' (ig _ _ _ hMD hI), hT _ _ ⟨.ptr D, M', k1.trans k', .ptr D, m', fin acc M' hMD hI⟩⟩
/-- y = [elt for x in iter], y a local name -/
theorem dx_setLc (d : DX X N sc k) (jy : Nat) (i : Nat) {elt iter : Expr} {scope : Scope} {x y : Str} {px py spos : Pos} (hy : loB N sc jy y = true) (hi : (decide (N[i]? = some x) && loS scope x && blkC N sc scope [(x, i)]) = true) (hs : ∀ x, foldedSetIterable iter X.env x = pure x)
    (hl : (py.line == pos.line) = true) (hb : (scope.names.any fun (n, k) => n == y && (k == .local || k == .cell)) = false) (hk : sc.kind = .function)
    (h : SI X G (.Name x px) iter env M fun xs Gd M1 => ∀ D1, M1 D1 = none → ∃ I : Nat → List S → Mem → Prop, I 0 [] (updM M1 D1 (.lst [])) ∧ (∀ j acc M', M' D1 = some (.lst acc) → I j acc M' → Gd M') ∧
      (∀ j s acc M', xs[j]? = some s → M' D1 = some (.lst acc) → I j acc M' → ∀ (s0 : Shared) (H0 : Hp) (C0 : Addr) (cl0 : List (Str × Addr)) (fp0 : List Addr), DN (X.blk s0 H0 scope (compEnvC scope cl0 C0 X.env) fp0) N (blkS sc scope) k → SE (X.blk s0 H0 scope (compEnvC scope cl0 C0 X.env) fp0) G elt (env.set i (some s)) M' (LcQ D1 acc (I (j + 1)))) ∧ ∀ acc M', M' D1 = some (.lst acc) → I xs.length acc M' → D.nx (env.set jy (some (.ptr D1))) M') :
    SS X G (.Assign [.Name y py] (.ListComp elt [⟨.Name x px, iter, [], 0⟩] scope pos) spos) env M D := fun G1 kG σ H R => by
  simp only [Bool.and_eq_true, decide_eq_true_eq] at hi
  obtain ⟨⟨h1, h2⟩, h3⟩ := hi
  have hf : scope.names.lookup x = some .local := by
    unfold loS at h2
    split at h2
    · assumption
    · cases h2
  have hN := d.ndX
  have hix : X.N[i]? = some x := by rw [d.hN]; exact h1
  have hkf : X.env.scope.kind = .function := by rw [d.sc]; exact hk
  refine ⟨_, ps_setLc (own := [(x, i)]) (tt := tYes) (te := tSEb X G scope elt) (g := gName i) d.calm hN (lo_of d hy).1 (lo_of d hy).2 (sw_true hkf (lo_of d hy).2 hl hb) (pi_S (G := G)) (by rw [d.hN, d.sc]; exact blkOk_by h3)
    (fun s H C cl fp => pg_name (X := X.blk s H scope (compEnvC scope cl C X.env) fp) hN hix (.inl (PySem.lookup_relabel_local hf)) (.inr (PySem.lookup_relabel_local hf))) (fun _ _ _ _ _ => pts_nil) (fun _ _ _ _ _ => pe_Sb) hs, ?_⟩
  refine tlc_go (Q := fun s M' => D.nx (env.set jy (some s)) M') (R.weak kG) (fun σ H R => ?_) (by simp) fun v H' ⟨s, M', k1, rv, m', q⟩ => ⟨env.set jy (some s), M', (R.step k1 m').set rv jy, q⟩
  refine ⟨_, pi_S (G := G), env, M, _, R, h, fun J H' ⟨xs, Gd, M1, k1, m1, g1, z⟩ => ⟨xs, Gd, M1, k1, m1, g1, fun D1 hD => ?_⟩⟩
  obtain ⟨I, i0, ig, turn, fin⟩ := z D1 hD
  refine ⟨I, i0, ig, fun j s acc M' e1 e2 e3 => fun s0 H0 C0 cl0 fp0 => ?_, fin⟩
  have t := turn j s acc M' e1 e2 e3 s0 H0 C0 cl0 fp0 d.dn.blk
  have e : (wipeE env ([(x, i)].map (·.2))).set i (some s) = env.set i (some s) := by
    show (env.set i none).set i (some s) = env.set i (some s)
    exact List.set_set ..
  rw [e]
  exact t
end
end Sy

set_option Elab.async false
set_option linter.all false
set_option maxRecDepth 100000
/-! S12: joined ways; an item at an open place; slices told; a store that grows but for one list. -/
namespace Sy
open PySem PySem.Spec PyProof.Rows L2
section
variable {X : Cx} {G : Hp} {env : Ev} {M : Mem} {D : SD} {Q : QS} {pos : Pos} {st : Stmt} {sts : List Stmt}
theorem sb_cut (R : Ev → Mem → Prop) (h : SS X G st env M { nx := R, rt := D.rt, bk := D.bk, ct := D.ct }) (k : ∀ env' M', R env' M' → SSs X G sts env' M' D) : SSs X G (st :: sts) env M D :=
  sb_cons (ss_le h k (fun _ _ q => q) (fun _ _ q => q) (fun _ _ q => q))
theorem rx_mem {p : Addr} {xs : List S} {i : Int} (hp : M p = some (.lst xs)) (h0 : 0 ≤ i) (h1 : i < xs.length) (q : ∀ s, s ∈ xs → Q s M) : RX X (.ptr p) (.int i) M Q := by
  have hi : i.toNat < xs.length := by omega
  have e : ((i.toNat : Nat) : Int) = i := by omega
  have z : atI xs ((i.toNat : Nat) : Int) = some xs[i.toNat] := atI_nat (List.getElem?_eq_getElem hi)
  rw [e] at z
  exact rx_lst hp z (q _ (List.getElem_mem hi))
theorem atI_in {xs : List S} {i : Int} (h0 : 0 ≤ i) (h1 : i < xs.length) : ∃ s, atI xs i = some s ∧ xs[i.toNat]? = some s ∧ s ∈ xs := by
  have hi : i.toNat < xs.length := by omega
  have e : ((i.toNat : Nat) : Int) = i := by omega
  have z : atI xs ((i.toNat : Nat) : Int) = some xs[i.toNat] := atI_nat (List.getElem?_eq_getElem hi)
  rw [e] at z
  exact ⟨_, z, List.getElem?_eq_getElem hi, List.getElem_mem hi⟩
end
theorem cut_to (xs : List S) (k : Nat) : cutS xs none (some (k : Int)) = xs.take k := by
  unfold cutS
  rw [HT.sIx_none, HT.sIx_nat, List.drop_zero, Nat.sub_zero]
  by_cases h : k ≤ xs.length
  · rw [Nat.min_eq_left h]
  · rw [Nat.min_eq_right (by omega), List.take_length, List.take_of_length_le (by omega)]
theorem cut_from (xs : List S) (k : Nat) : cutS xs (some (k : Int)) none = xs.drop k := by
  unfold cutS
  rw [HT.sIx_none, HT.sIx_nat]
  by_cases h : k ≤ xs.length
  · rw [Nat.min_eq_left h]
    exact List.take_of_length_le (by rw [List.length_drop]; omega)
  · rw [Nat.min_eq_right (by omega), List.drop_length, List.drop_of_length_le (by omega), List.take_nil]
/-- all but what stands at p stays -/
def Grow (p : Addr) (M M' : Mem) : Prop := ∀ a o, a ≠ p → M a = some o → M' a = some o
theorem Grow.refl {p : Addr} {M : Mem} : Grow p M M := fun _ _ _ h => h
theorem Grow.trans {p : Addr} {M M1 M2 : Mem} (a : Grow p M M1) (b : Grow p M1 M2) : Grow p M M2 := fun c o h z => b c o h (a c o h z)
theorem Grow.new {p : Addr} {M : Mem} {q : Addr} {o : MO} (h : M q = none) : Grow p M (updM M q o) := fun a u _ e => by rw [updM_ne (neM e h)]; exact e
theorem Grow.sub {p : Addr} {M M1 M2 : Mem} (a : Grow p M M1) (h : Sub M1 M2) : Grow p M M2 := fun c o n z => h c o (a c o n z)
end Sy

set_option Elab.async false
set_option linter.all false
set_option maxRecDepth 100000
/-! S13: {k: i, ..} of constants; what stands in the dict is left open. -/
namespace Sy
open PySem PySem.Spec PyProof.Rows L2
/-- keys ints or texts, values ints, all constants -/
inductive PPc : List (Option Expr) → List Expr → List (Key × V) → Prop
  | nil : PPc [] [] []
  | int {i v : Int} {a b pa pb ks vs l} (t : PPc ks vs l) : PPc (some (.Constant (.int i) a pa) :: ks) (.Constant (.int v) b pb :: vs) ((Sum.inl i, .int v) :: l)
  | str {i : Str} {v : Int} {a b pa pb ks vs l} (t : PPc ks vs l) : PPc (some (.Constant (.str i) a pa) :: ks) (.Constant (.int v) b pb :: vs) ((Sum.inr i, .int v) :: l)
theorem upd2 {H : Hp} {p : Addr} {a b : HO} : upd (upd H p a) p b = upd H p b := by
  funext x; unfold upd; split <;> rfl
theorem kr_some {K : PySem.W.Frag} {H : Hp} : ∀ {ws : List (Key × V)}, (∀ q, q ∈ ws → ∃ i, q.2 = V.int i) → ∃ ss, KR K H ss ws
  | [], _ => ⟨[], .nil⟩
  | (k, v) :: ws, h => by
    obtain ⟨ss, r⟩ := kr_some (ws := ws) fun q hq => h q (List.mem_cons_of_mem _ hq)
    obtain ⟨i, e⟩ := h (k, v) List.mem_cons_self
    have e : v = V.int i := e
    subst e
    exact ⟨(k, .int i) :: ss, .cons (.int i) r⟩
theorem putK_int {kvs : List (Key × V)} {k : Key} {j : Int} (h : ∀ q, q ∈ kvs → ∃ i, q.2 = V.int i) : ∀ q, q ∈ putK kvs k (V.int j) → ∃ i, q.2 = V.int i := by
  intro q hq
  unfold putK at hq
  split at hq
  · obtain ⟨kv, hkv, rfl⟩ := List.mem_map.mp hq
    split
    · exact ⟨j, rfl⟩
    · exact h kv hkv
  · rcases List.mem_append.mp hq with z | z
    · exact h q z
    · rw [List.mem_singleton.mp z]; exact ⟨j, rfl⟩
theorem mergeK_int : ∀ {more kvs : List (Key × V)}, (∀ q, q ∈ kvs → ∃ i, q.2 = V.int i) → (∀ q, q ∈ more → ∃ i, q.2 = V.int i) → ∀ q, q ∈ mergeK kvs more → ∃ i, q.2 = V.int i
  | [], kvs, h, _ => h
  | (k, v) :: more, kvs, h, h2 => by
    obtain ⟨j, e⟩ := h2 (k, v) List.mem_cons_self
    have e : v = V.int j := e
    subst e
    exact mergeK_int (more := more) (kvs := putK kvs k (.int j)) (putK_int h) fun q hq => h2 q (List.mem_cons_of_mem _ hq)
theorem PPc.ints {ks vs l} (h : PPc ks vs l) : ∀ q, q ∈ l → ∃ i, q.2 = V.int i := by
  induction h with
  | nil => exact fun q hq => nomatch hq
  | int t ih => intro q hq; rcases List.mem_cons.mp hq with rfl | z; exact ⟨_, rfl⟩; exact ih q z
  | str t ih => intro q hq; rcases List.mem_cons.mp hq with rfl | z; exact ⟨_, rfl⟩; exact ih q z
theorem PPc.pps {X : Cx} {pos : Pos} {ks vs l} (h : PPc ks vs l) : ∃ trs, PPs X pos ks vs trs ∧ ∀ σ H (Q : List (V × V) → Hp → Prop), Q (l.map fun kv => (kV kv.1, kv.2)) H → tPairs trs σ H Q := by
  induction h with
  | nil => exact ⟨_, pps_nil, fun σ H Q q => q⟩
  | int t ih =>
    obtain ⟨trs, h1, h2⟩ := ih
    exact ⟨_, pps_cons pe_int pe_int h1, fun σ H Q q => h2 σ H _ q⟩
  | str t ih =>
    obtain ⟨trs, h1, h2⟩ := ih
    exact ⟨_, pps_cons pe_str pe_int h1, fun σ H Q q => h2 σ H _ q⟩
theorem se_dictC {X : Cx} {G : Hp} {env : Ev} {M : Mem} {Q : QS} {pos : Pos} {ks : List (Option Expr)} {vs : List Expr} {l : List (Key × V)} (h : PPc ks vs l) (h0 : ks ≠ []) (h15 : l.length ≤ 15) (hk : ks.length = l.length) (hv : vs.length = l.length) (ha : ks.all (·.isSome) = true)
    (q : ∀ p o, M p = none → Q (.ptr p) (updM M p (.dK o))) : SE X G (.Dict ks vs pos) env M Q := fun σ H R => by
  obtain ⟨trs, h1, h2⟩ := h.pps (X := X) (pos := pos)
  refine ⟨_, pe_disp h1 ha (by omega) h0 (by omega), fun p hp => h2 _ _ _ ?_⟩
  obtain ⟨ss, hs⟩ := kr_some (K := X.K) (H := upd H p (.dK (mergeK [] l))) (mergeK_int (kvs := []) (fun q hq => nomatch hq) h.ints)
  refine ⟨upd_same, l, rfl, h15, .ptr p, updM M p (.dK ss), ?_, .ptr p, ?_, q p ss (R.mem.free hp)⟩
  · rw [upd2]; exact keep_new hp
  · rw [upd2]; exact R.mem.put (u := .dK ss) (keep_new hp) ⟨_, upd_same, hs⟩
end Sy

set_option Elab.async false
set_option linter.all false
set_option maxRecDepth 100000
set_option maxHeartbeats 1000000
namespace Sy
open PySem PySem.Spec PyProof.Rows L2
def topS (i : Nat) : Stmt := PySem.Challenge.pw_everydepth_k04_books_and_pictures_told_f.main.body.getD i (.Pass ⟨0, 0, 0, 0⟩)
abbrev s_is_book : Stmt := topS 2
abbrev s_is_block : Stmt := topS 3
abbrev s_is_block_row : Stmt := topS 4
abbrev s_is_picture : Stmt := topS 5
abbrev s_is_shade : Stmt := topS 6
abbrev s_is_tuple_of : Stmt := topS 7
abbrev s_is_int : Stmt := topS 8
/-- the names of built-ins are not the module's -/
structure Txt (mg : Str → Option Value) : Prop where
  len : mg "len" = none
  isinstance : mg "isinstance" = none
  all : mg "all" = none
  int : mg "int" = none
  bool : mg "bool" = none
  tuple : mg "tuple" = none
local macro_rules | `(tactic| walk_at "nm") => `(tactic| ((with_reducible refine' dn_name ?d _ ?h ?he ?q); (case d => assumption); (case h => with_reducible assumption); (case he => rfl)))
local macro_rules | `(tactic| walk_at "cn") => `(tactic| first | with_reducible refine se_int ?_ | with_reducible refine se_bl ?_ | with_reducible refine se_non ?_ | with_reducible refine se_str ?_)
local macro_rules | `(tactic| walk_at "ct") => `(tactic| ((with_reducible refine' dn_callT ?d ?m ?v ?g ?n ?db ?st ?pl ?q); (case d => assumption); (case m => with_reducible assumption); (case v => first | with_reducible exact bt_int | with_reducible exact bt_tuple | with_reducible exact bt_list | with_reducible exact bt_str | with_reducible exact bt_bool); (case g => with_reducible assumption); (case n => decide); (case db => decide); (case st => rfl); (case pl => rfl)))
local macro_rules | `(tactic| walk_at "cb") => `(tactic| ((with_reducible refine' dn_callB ?d ?m ?v ?g ?n ?db ?st ?pl ?q); (case d => assumption); (case m => with_reducible assumption); (case v => first | with_reducible exact bf_len | with_reducible exact bf_isinstance | with_reducible exact bf_all | with_reducible exact bf_max | with_reducible exact bf_min | with_reducible exact bf_abs | with_reducible exact bf_sum | with_reducible exact bf_any); (case g => with_reducible assumption); (case n => decide); (case db => decide); (case st => rfl); (case pl => rfl)))
local macro_rules | `(tactic| walk_at "cf") => `(tactic| ((with_reducible refine' dn_call ?d ?F ?g ?k ?db ?st ?pl ?q); (case d => assumption); (case F => with_reducible assumption); (case g => with_reducible assumption); (case k => decide); (case db => decide); (case st => rfl); (case pl => rfl)))
local macro_rules | `(tactic| walk_at "tv") => `(tactic| ((with_reducible refine' dn_ty ?d ?m ?v ?g ?n ?db ?q); (case d => assumption); (case m => with_reducible assumption); (case v => first | with_reducible exact bt_int | with_reducible exact bt_tuple | with_reducible exact bt_list | with_reducible exact bt_str | with_reducible exact bt_bool); (case g => with_reducible assumption); (case n => decide); (case db => decide)))
local macro_rules | `(tactic| walk_at "e") => `(tactic| first | walk_at "nm" | walk_at "cn" | with_reducible refine se_bin ?_ | ((with_reducible refine' se_cmp ?q ?st); (case st => first | exact nomark _ | rfl)) | ((with_reducible refine' se_ix ?q ?st); (case st => exact fun _ _ => rfl)) | with_reducible refine sa_nil ?_ | ((with_reducible refine' sa_cons ?q ?st); (case st => rfl)) | walk_at "cf" | walk_at "cb" | walk_at "ct" | walk_at "tv" | with_reducible refine se_one ?_ | ((with_reducible refine' se_chain ?q ?st); (case st => with_unfolding_all rfl)) | with_reducible refine se_tup ?_ | with_reducible refine se_lst ?_ | with_reducible refine se_and ?_ | with_reducible refine se_or ?_ | with_reducible refine se_not ?_ | with_reducible refine se_un ?_ )
local macro_rules | `(tactic| walk_at "v") => `(tactic| first | with_reducible refine ro_addI ?_ | with_reducible refine ro_subI ?_ | with_reducible refine rc_eqI ?_ | with_reducible refine rc_neI ?_ | with_reducible refine rc_ltI ?_ | with_reducible refine rc_leI ?_ | with_reducible refine rc_gtI ?_ | with_reducible refine rc_geI ?_ | with_reducible refine rb_intI ?_ | with_reducible refine ru_neg ?_ | with_reducible refine rb_tupleT ?_ | ((with_reducible refine rb_isInt ?h ?q); (case h => assumption)) | ((with_reducible refine rb_isBool ?h ?q); (case h => assumption)) | ((with_reducible refine rb_isTup ?h ?q); (case h => assumption)) | with_reducible refine rb_len its_tup ?_)
local macro_rules | `(tactic| walk_at "s") => `(tactic| first | with_reducible refine sb_one ?_ | with_reducible refine sb_cons ?_ | with_reducible refine ss_ret (se_fg ?_) | with_reducible refine ss_if ?_ | ((with_reducible refine' ss_expr ?q ?st); (case st => rfl)) | ((with_reducible refine' dx_set ?d _ ?h ?hs ?q); (case d => assumption); (case h => with_reducible assumption); (case hs => rfl)))
local macro_rules | `(tactic| walk_at "t") => `(tactic| first | with_reducible refine st_not ?_ | ((with_reducible refine' st_cmp ?q ?st); (case st => first | exact nomark _ | rfl)) | with_reducible refine sw_and1 ?_ | with_reducible refine sw_or1 ?_ | with_reducible refine sw_or ?_ | with_reducible refine sw_and ?_ | ((with_reducible refine' st_chain ?q ?st); (case st => with_unfolding_all rfl)) | (refine st_of ?_; first | with_reducible refine sw_or ?_ | with_reducible refine sw_and ?_) | ((with_reducible refine' st_val ?q ?st); (case st => intro _; rfl)))
local macro_rules | `(tactic| walk_at "go") => `(tactic| repeat (first | walk_at "e" | walk_at "v" | walk_at "s" | walk_at "t"))
def C_is_int : Con := fun ss M Q _ => ∃ s, ss = [s] ∧ Kn M s ∧ Q (.bl (isInt s)) M
/-- a tuple of so many -/
def isTupN (n : Int) : S → Bool
  | .tup xs => decide ((xs.length : Int) = n)
  | _ => false
def C_is_tuple_of : Con := fun ss M Q _ => ∃ s n, ss = [s, .int n] ∧ Kn M s ∧ Q (.bl (isTupN n s)) M
def isShade : S → Bool
  | .int i => decide (0 ≤ i) && decide (i ≤ 3)
  | _ => false
def C_is_shade : Con := fun ss M Q _ => ∃ s, ss = [s] ∧ Kn M s ∧ Q (.bl (isShade s)) M
def isLet (n : Int) : S → Bool
  | .int i => decide (0 ≤ i) && decide (i < n)
  | _ => false
def isRow (b n : Int) : S → Bool
  | .tup xs => decide ((xs.length : Int) = b) && xs.all (isLet n)
  | _ => false
def C_is_block_row : Con := fun ss M Q _ => ∃ s b n, ss = [s, .int b, .int n] ∧ Kn M s ∧ b ≤ 1000 ∧ Q (.bl (isRow b n s)) M
def isBlk (b n : Int) : S → Bool
  | .tup xs => decide ((xs.length : Int) = b) && xs.all (isRow b n)
  | _ => false
def C_is_block : Con := fun ss M Q _ => ∃ s b n, ss = [s, .int b, .int n] ∧ Kn M s ∧ b ≤ 1000 ∧ Q (.bl (isBlk b n s)) M
theorem bl_ff {b : Bool} {Q : QS} {M : Mem} (c : b = false) (q : Q (.bl false) M) : Q (.bl b) M := by rw [c]; exact q
section
variable {P : Program} {w : World} {K : PySem.W.Frag} {mg : Str → Option Value} {base : Heap}
theorem sc_is_int : FnScope ["value"] ["value"] (defScope s_is_int) := ⟨rfl, rfl, rfl, by decide +kernel, rfl, by decide +kernel, by decide +kernel⟩
theorem ok_is_int {f : Addr} {fd : FuncData} (F : Fun K "is_int" "is_int" s_is_int f fd) (T : Txt mg) : FnOk P w K mg base (L2.CX P w) 1 f fd ["value"] (SpC K C_is_int) := by
  refine def_ok F sc_is_int (fun ss M Q E h => ?_) (fun X G eP ew eK em eb d ss M Q E h wi => ?_)
  · obtain ⟨s, rfl, _⟩ := h; rfl
  subst eP ew eK em eb
  have dn := d.dn
  have g_isinstance : glB (defScope s_is_int) "isinstance" = true := by decide +kernel
  have n0 : nmB ["value"] (defScope s_is_int) 0 "value" = true := by decide +kernel
  have g_int : glB (defScope s_is_int) "int" = true := by decide +kernel
  have g_bool : glB (defScope s_is_int) "bool" = true := by decide +kernel
  obtain ⟨t1, t2, t3, t4, t5, t6⟩ := T
  obtain ⟨s, rfl, hk, q⟩ := h
  conv => pattern (defBody _); whnf
  show SSs X G _ [some s] M _
  walk_at "go"
  refine ⟨_, rfl, fun c => ?_, fun c => ?_⟩
  · walk_at "go"
    refine ⟨_, rfl, ?_⟩
    have e : (!isBl s) = isInt s := by cases s <;> first | rfl | (cases c)
    rw [e]
    exact ⟨_, Sub.refl, q⟩
  · have e : isInt s = false := by cases s <;> first | rfl | (cases c)
    rw [e] at q
    exact ⟨_, Sub.refl, q⟩
theorem sc_is_tuple_of : FnScope ["value", "count"] ["value", "count"] (defScope s_is_tuple_of) := ⟨rfl, rfl, rfl, by decide +kernel, rfl, by decide +kernel, by decide +kernel⟩
theorem ok_is_tuple_of {f : Addr} {fd : FuncData} (F : Fun K "is_tuple_of" "is_tuple_of" s_is_tuple_of f fd) (T : Txt mg) : FnOk P w K mg base (L2.CX P w) 1 f fd ["value", "count"] (SpC K C_is_tuple_of) := by
  refine def_ok F sc_is_tuple_of (fun ss M Q E h => ?_) (fun X G eP ew eK em eb d ss M Q E h wi => ?_)
  · obtain ⟨s, n, rfl, _⟩ := h; rfl
  subst eP ew eK em eb
  have dn := d.dn
  have g_isinstance : glB (defScope s_is_tuple_of) "isinstance" = true := by decide +kernel
  have n0 : nmB ["value", "count"] (defScope s_is_tuple_of) 0 "value" = true := by decide +kernel
  have g_tuple : glB (defScope s_is_tuple_of) "tuple" = true := by decide +kernel
  have g_len : glB (defScope s_is_tuple_of) "len" = true := by decide +kernel
  have n1 : nmB ["value", "count"] (defScope s_is_tuple_of) 1 "count" = true := by decide +kernel
  obtain ⟨t1, t2, t3, t4, t5, t6⟩ := T
  obtain ⟨s, n, rfl, hk, q⟩ := h
  conv => pattern (defBody _); whnf
  show SSs X G _ [some s, some (.int n)] M _
  walk_at "go"
  refine ⟨_, rfl, fun c => ?_, fun c => ?_⟩
  · cases s with
    | tup xs =>
      walk_at "go"
      exact ⟨_, Sub.refl, q⟩
    | _ => cases c
  · have e : isTupN n s = false := by cases s <;> first | rfl | (cases c)
    rw [e] at q
    exact ⟨_, Sub.refl, q⟩
theorem sc_is_shade : FnScope ["value"] ["value"] (defScope s_is_shade) := ⟨rfl, rfl, rfl, by decide +kernel, rfl, by decide +kernel, by decide +kernel⟩
theorem ok_is_shade {f : Addr} {fd : FuncData} (F : Fun K "is_shade" "is_shade" s_is_shade f fd) (F_is_int : Fn P w K mg base "is_int" 1 C_is_int) : FnOk P w K mg base (L2.CX P w) 2 f fd ["value"] (SpC K C_is_shade) := by
  refine def_ok F sc_is_shade (fun ss M Q E h => ?_) (fun X G eP ew eK em eb d ss M Q E h wi => ?_)
  · obtain ⟨s, rfl, _⟩ := h; rfl
  subst eP ew eK em eb
  have dn := d.dn
  have g_is_int : glB (defScope s_is_shade) "is_int" = true := by decide +kernel
  have n0 : nmB ["value"] (defScope s_is_shade) 0 "value" = true := by decide +kernel
  obtain ⟨s, rfl, hk, q⟩ := h
  conv => pattern (defBody _); whnf
  show SSs X G _ [some s] M _
  walk_at "go"
  refine ⟨_, rfl, hk, ?_⟩
  refine ⟨_, rfl, fun c => ?_, fun c => ?_⟩
  · cases s with
    | int i =>
      walk_at "go"
      refine rch_leI (fun c => ?_) (fun c => ?_)
      · have e : isShade (.int i) = false := by show (decide (0 ≤ i) && decide (i ≤ 3)) = false; rw [decide_eq_false c]; rfl
        rw [e] at q
        exact ⟨_, Sub.refl, q⟩
      · walk_at "go"
        have e : isShade (.int i) = decide (i ≤ 3) := by show (decide (0 ≤ i) && decide (i ≤ 3)) = _; rw [decide_eq_true c]; rfl
        rw [e] at q
        exact ⟨_, Sub.refl, q⟩
    | _ => cases c
  · have e : isShade s = false := by cases s <;> first | rfl | (cases c)
    rw [e] at q
    exact ⟨_, Sub.refl, q⟩
theorem sc_is_block_row : FnScope ["value", "base", "count", "letter"] ["value", "base", "count"] (defScope s_is_block_row) := ⟨rfl, rfl, rfl, by decide +kernel, rfl, by decide +kernel, by decide +kernel⟩
theorem ok_is_block_row {f : Addr} {fd : FuncData} (F : Fun K "is_block_row" "is_block_row" s_is_block_row f fd) (T : Txt mg) (F_is_tuple_of : Fn P w K mg base "is_tuple_of" 1 C_is_tuple_of) (F_is_int : Fn P w K mg base "is_int" 1 C_is_int) : FnOk P w K mg base (L2.CX P w) 2 f fd ["value", "base", "count"] (SpC K C_is_block_row) := by
  refine def_ok F sc_is_block_row (fun ss M Q E h => ?_) (fun X G eP ew eK em eb d ss M Q E h wi => ?_)
  · obtain ⟨s, b, n, rfl, _⟩ := h; rfl
  subst eP ew eK em eb
  have dn := d.dn
  have g_is_tuple_of : glB (defScope s_is_block_row) "is_tuple_of" = true := by decide +kernel
  have n0 : nmB ["value", "base", "count", "letter"] (defScope s_is_block_row) 0 "value" = true := by decide +kernel
  have n1 : nmB ["value", "base", "count", "letter"] (defScope s_is_block_row) 1 "base" = true := by decide +kernel
  have g_all : glB (defScope s_is_block_row) "all" = true := by decide +kernel
  obtain ⟨t1, t2, t3, t4, t5, t6⟩ := T
  obtain ⟨s, b, n, rfl, hk, hb, q⟩ := h
  conv => pattern (defBody _); whnf
  show SSs X G _ [some s, some (.int b), some (.int n), none] M _
  walk_at "go"
  refine ⟨_, _, rfl, hk, ?_⟩
  refine ⟨_, rfl, fun c => ?_, fun c => ?_⟩
  · cases s with
    | tup xs =>
      walk_at "go"
      refine dx_map dn d.nd 3 (by decide +kernel) (fun _ => rfl) ?_
      refine si_tup ?_
      walk_at "go"
      refine ⟨_, rfl, ?_⟩
      have kx : ∀ s, s ∈ xs → Kn M s := by cases hk; assumption
      have eb : (xs.length : Int) = b := of_decide_eq_true c
      refine ⟨fun s => .bl (isLet n s), small1000 (by omega), fun _ _ => True.intro, fun D M' hD hM s hs s0 H0 C0 cl0 fp0 dn1 => ?_, fun D M' hD hM eD => ?_⟩
      · have ks : Kn M' s := (kx s hs).sub hM
        refine se_and ?_
        refine dn_call dn1 F_is_int (by decide +kernel) (by decide) (by decide) rfl rfl ?_
        refine sa_cons ?_
        refine dn_name dn1 3 (by decide +kernel) rfl ?_
        refine sa_nil ?_
        refine ⟨_, rfl, ks, ?_⟩
        refine ⟨_, rfl, fun c => ?_, fun c => ?_⟩
        · cases s with
          | int i =>
            walk_at "go"
            refine dn_name dn1 3 (by decide +kernel) rfl ?_
            refine rch_leI (fun c => ⟨?_, Sub.refl⟩) (fun c => ?_)
            · show S.bl false = S.bl (decide (0 ≤ i) && decide (i < n))
              rw [decide_eq_false c]; rfl
            · refine dn_name dn1 2 (by decide +kernel) rfl ?_
              walk_at "go"
              refine ⟨?_, Sub.refl⟩
              show S.bl _ = S.bl (decide (0 ≤ i) && decide (i < n))
              rw [decide_eq_true c]; rfl
          | _ => cases c
        · refine ⟨?_, Sub.refl⟩
          have e : isLet n s = false := by cases s <;> first | rfl | (cases c)
          show _ = S.bl (isLet n s)
          rw [e]
      · walk_at "go"
        have e : xs.map (fun s => S.bl (isLet n s)) = (xs.map (isLet n)).map S.bl := by rw [List.map_map]; rfl
        rw [e] at eD
        refine rb_all eD ⟨M, hM, ?_⟩ d.calm
        have e2 : isRow b n (.tup xs) = (xs.map (isLet n)).all id := by
          show (decide ((xs.length : Int) = b) && xs.all (isLet n)) = _
          rw [decide_eq_true eb, List.all_map]
          rfl
        rw [e2] at q
        exact q
    | _ => cases c
  · have e : isRow b n s = false := by
      cases s with
      | tup xs => show (decide ((xs.length : Int) = b) && _) = false; rw [show decide ((xs.length : Int) = b) = false from c]; rfl
      | _ => rfl
    rw [e] at q
    exact ⟨_, Sub.refl, q⟩
theorem sc_is_block : FnScope ["value", "base", "count", "row"] ["value", "base", "count"] (defScope s_is_block) := ⟨rfl, rfl, rfl, by decide +kernel, rfl, by decide +kernel, by decide +kernel⟩
theorem ok_is_block {f : Addr} {fd : FuncData} (F : Fun K "is_block" "is_block" s_is_block f fd) (T : Txt mg) (F_is_tuple_of : Fn P w K mg base "is_tuple_of" 1 C_is_tuple_of) (F_is_block_row : Fn P w K mg base "is_block_row" 2 C_is_block_row) : FnOk P w K mg base (L2.CX P w) 3 f fd ["value", "base", "count"] (SpC K C_is_block) := by
  refine def_ok F sc_is_block (fun ss M Q E h => ?_) (fun X G eP ew eK em eb d ss M Q E h wi => ?_)
  · obtain ⟨s, b, n, rfl, _⟩ := h; rfl
  subst eP ew eK em eb
  have dn := d.dn
  have g_is_tuple_of : glB (defScope s_is_block) "is_tuple_of" = true := by decide +kernel
  have n0 : nmB ["value", "base", "count", "row"] (defScope s_is_block) 0 "value" = true := by decide +kernel
  have n1 : nmB ["value", "base", "count", "row"] (defScope s_is_block) 1 "base" = true := by decide +kernel
  have g_all : glB (defScope s_is_block) "all" = true := by decide +kernel
  obtain ⟨t1, t2, t3, t4, t5, t6⟩ := T
  obtain ⟨s, b, n, rfl, hk, hb, q⟩ := h
  conv => pattern (defBody _); whnf
  show SSs X G _ [some s, some (.int b), some (.int n), none] M _
  walk_at "go"
  refine ⟨_, _, rfl, hk, ?_⟩
  refine ⟨_, rfl, fun c => ?_, fun c => ?_⟩
  · cases s with
    | tup xs =>
      walk_at "go"
      refine dx_map dn d.nd 3 (by decide +kernel) (fun _ => rfl) ?_
      refine si_tup ?_
      walk_at "go"
      refine ⟨_, rfl, ?_⟩
      have kx : ∀ s, s ∈ xs → Kn M s := by cases hk; assumption
      have eb : (xs.length : Int) = b := of_decide_eq_true c
      refine ⟨fun s => .bl (isRow b n s), small1000 (by omega), fun _ _ => True.intro, fun D M' hD hM s hs s0 H0 C0 cl0 fp0 dn1 => ?_, fun D M' hD hM eD => ?_⟩
      · have ks : Kn M' s := (kx s hs).sub hM
        refine dn_call dn1 F_is_block_row (by decide +kernel) (by decide) (by decide) rfl rfl ?_
        refine sa_cons ?_
        refine dn_name dn1 3 (by decide +kernel) rfl ?_
        refine sa_cons ?_
        refine dn_name dn1 1 (by decide +kernel) rfl ?_
        refine sa_cons ?_
        refine dn_name dn1 2 (by decide +kernel) rfl ?_
        refine sa_nil ?_
        exact ⟨_, _, _, rfl, ks, hb, rfl, Sub.refl⟩
      · walk_at "go"
        have e : xs.map (fun s => S.bl (isRow b n s)) = (xs.map (isRow b n)).map S.bl := by rw [List.map_map]; rfl
        rw [e] at eD
        refine rb_all eD ⟨M, hM, ?_⟩ d.calm
        have e2 : isBlk b n (.tup xs) = (xs.map (isRow b n)).all id := by
          show (decide ((xs.length : Int) = b) && xs.all (isRow b n)) = _
          rw [decide_eq_true eb, List.all_map]
          rfl
        rw [e2] at q
        exact q
    | _ => cases c
  · have e : isBlk b n s = false := by
      cases s with
      | tup xs => show (decide ((xs.length : Int) = b) && _) = false; rw [show decide ((xs.length : Int) = b) = false from c]; rfl
      | _ => rfl
    rw [e] at q
    exact ⟨_, Sub.refl, q⟩
end
end Sy

set_option Elab.async false
set_option linter.all false
set_option maxRecDepth 100000
set_option maxHeartbeats 1000000
namespace Sy
open PySem PySem.Spec PyProof.Rows L2
local macro_rules | `(tactic| walk_at "nm") => `(tactic| ((with_reducible refine' dn_name ?d _ ?h ?he ?q); (case d => assumption); (case h => with_reducible assumption); (case he => rfl)))
local macro_rules | `(tactic| walk_at "cn") => `(tactic| first | with_reducible refine se_int ?_ | with_reducible refine se_bl ?_ | with_reducible refine se_non ?_ | with_reducible refine se_str ?_)
local macro_rules | `(tactic| walk_at "ct") => `(tactic| ((with_reducible refine' dn_callT ?d ?m ?v ?g ?n ?db ?st ?pl ?q); (case d => assumption); (case m => with_reducible assumption); (case v => first | with_reducible exact bt_int | with_reducible exact bt_tuple | with_reducible exact bt_list | with_reducible exact bt_str | with_reducible exact bt_bool); (case g => with_reducible assumption); (case n => decide); (case db => decide); (case st => rfl); (case pl => rfl)))
local macro_rules | `(tactic| walk_at "cb") => `(tactic| ((with_reducible refine' dn_callB ?d ?m ?v ?g ?n ?db ?st ?pl ?q); (case d => assumption); (case m => with_reducible assumption); (case v => first | with_reducible exact bf_len | with_reducible exact bf_isinstance | with_reducible exact bf_all | with_reducible exact bf_max | with_reducible exact bf_min | with_reducible exact bf_abs | with_reducible exact bf_sum | with_reducible exact bf_any); (case g => with_reducible assumption); (case n => decide); (case db => decide); (case st => rfl); (case pl => rfl)))
local macro_rules | `(tactic| walk_at "cf") => `(tactic| ((with_reducible refine' dn_call ?d ?F ?g ?k ?db ?st ?pl ?q); (case d => assumption); (case F => with_reducible assumption); (case g => with_reducible assumption); (case k => decide); (case db => decide); (case st => rfl); (case pl => rfl)))
local macro_rules | `(tactic| walk_at "tv") => `(tactic| ((with_reducible refine' dn_ty ?d ?m ?v ?g ?n ?db ?q); (case d => assumption); (case m => with_reducible assumption); (case v => first | with_reducible exact bt_int | with_reducible exact bt_tuple | with_reducible exact bt_list | with_reducible exact bt_str | with_reducible exact bt_bool); (case g => with_reducible assumption); (case n => decide); (case db => decide)))
local macro_rules | `(tactic| walk_at "e") => `(tactic| first | walk_at "nm" | walk_at "cn" | with_reducible refine se_bin ?_ | ((with_reducible refine' se_cmp ?q ?st); (case st => first | exact nomark _ | rfl)) | ((with_reducible refine' se_ix ?q ?st); (case st => exact fun _ _ => rfl)) | with_reducible refine sa_nil ?_ | ((with_reducible refine' sa_cons ?q ?st); (case st => rfl)) | walk_at "cf" | walk_at "cb" | walk_at "ct" | walk_at "tv" | with_reducible refine se_one ?_ | ((with_reducible refine' se_chain ?q ?st); (case st => with_unfolding_all rfl)) | with_reducible refine se_tup ?_ | with_reducible refine se_lst ?_ | with_reducible refine se_and ?_ | with_reducible refine se_or ?_ | with_reducible refine se_not ?_ | with_reducible refine se_un ?_ )
local macro_rules | `(tactic| walk_at "v") => `(tactic| first | with_reducible refine ro_addI ?_ | with_reducible refine ro_subI ?_ | with_reducible refine rc_eqI ?_ | with_reducible refine rc_neI ?_ | with_reducible refine rc_ltI ?_ | with_reducible refine rc_leI ?_ | with_reducible refine rc_gtI ?_ | with_reducible refine rc_geI ?_ | with_reducible refine rb_intI ?_ | with_reducible refine ru_neg ?_ | with_reducible refine rb_tupleT ?_ | ((with_reducible refine rb_isInt ?h ?q); (case h => assumption)) | ((with_reducible refine rb_isBool ?h ?q); (case h => assumption)) | ((with_reducible refine rb_isTup ?h ?q); (case h => assumption)) | with_reducible refine rb_len its_tup ?_)
local macro_rules | `(tactic| walk_at "s") => `(tactic| first | with_reducible refine sb_one ?_ | with_reducible refine sb_cons ?_ | with_reducible refine ss_ret (se_fg ?_) | with_reducible refine ss_if ?_ | ((with_reducible refine' ss_expr ?q ?st); (case st => rfl)) | ((with_reducible refine' dx_set ?d _ ?h ?hs ?q); (case d => assumption); (case h => with_reducible assumption); (case hs => rfl)))
local macro_rules | `(tactic| walk_at "t") => `(tactic| first | with_reducible refine st_not ?_ | ((with_reducible refine' st_cmp ?q ?st); (case st => first | exact nomark _ | rfl)) | with_reducible refine sw_and1 ?_ | with_reducible refine sw_or1 ?_ | with_reducible refine sw_or ?_ | with_reducible refine sw_and ?_ | ((with_reducible refine' st_chain ?q ?st); (case st => with_unfolding_all rfl)) | (refine st_of ?_; first | with_reducible refine sw_or ?_ | with_reducible refine sw_and ?_) | ((with_reducible refine' st_val ?q ?st); (case st => intro _; rfl)))
local macro_rules | `(tactic| walk_at "go") => `(tactic| repeat (first | walk_at "e" | walk_at "v" | walk_at "s" | walk_at "t"))
section
variable {P : Program} {w : World} {K : PySem.W.Frag} {mg : Str → Option Value} {base : Heap}
def items : S → List S
  | .tup xs => xs
  | _ => []
def intOf : S → Int
  | .int i => i
  | _ => 0
def isBase : S → Bool
  | .int b => ([2, 3, 4] : List Int).contains b
  | _ => false
/-- what a book is -/
def isBook3 (a1 a2 a3 : S) : Bool := isBase a1 && (isTup a2 && decide (1 ≤ (items a2).length) && decide ((items a2).length ≤ 64)) && isTupN (items a2).length a3 && (items a2).all isShade && (items a3).all (isBlk (intOf a1) (items a2).length)
def isBook : S → Bool
  | .tup [a1, a2, a3] => isBook3 a1 a2 a3
  | _ => false
theorem isBook_no {s : S} (c : (!isTupN 3 s) = true) : isBook s = false := by
  unfold isBook
  split
  · rename_i a1 a2 a3
    have z : (!decide ((([a1, a2, a3] : List S).length : Int) = 3)) = true := c
    exact absurd z (by show ¬ (!decide ((3 : Int) = 3)) = true; decide)
  · rfl
theorem isTupN_3 {s : S} (c : (!isTupN 3 s) = false) : ∃ a1 a2 a3, s = .tup [a1, a2, a3] := by
  cases s with
  | tup xs =>
    have z : (!decide ((xs.length : Int) = 3)) = false := c
    have z2 : (xs.length : Int) = 3 := by simpa using z
    match xs, z2 with
    | [_, _, _], _ => exact ⟨_, _, _, rfl⟩
    | [], z => simp at z
    | [_], z => simp at z
    | [_, _], z => simp at z
    | _ :: _ :: _ :: _ :: r, z => simp at z; omega
  | _ => exact absurd c (by show ¬ (!false) = false; decide)
def C_is_book : Con := fun ss M Q _ => ∃ s, ss = [s] ∧ Kn M s ∧ Q (.bl (isBook s)) M
theorem sc_is_book : FnScope ["value", "base", "shades", "blocks", "shade", "block"] ["value"] (defScope s_is_book) := ⟨rfl, rfl, rfl, by decide +kernel, rfl, by decide +kernel, by decide +kernel⟩
theorem ok_is_book {f : Addr} {fd : FuncData} (F : Fun K "is_book" "is_book" s_is_book f fd) (T : Txt mg) (hML : ∃ t, mg "MOST_LETTERS" = some (.int 64 t)) (F_is_tuple_of : Fn P w K mg base "is_tuple_of" 1 C_is_tuple_of) (F_is_int : Fn P w K mg base "is_int" 1 C_is_int)
    (F_is_shade : Fn P w K mg base "is_shade" 2 C_is_shade) (F_is_block : Fn P w K mg base "is_block" 3 C_is_block) : FnOk P w K mg base (L2.CX P w) 4 f fd ["value"] (SpC K C_is_book) := by
  refine def_ok F sc_is_book (fun ss M Q E h => ?_) (fun X G eP ew eK em eb d ss M Q E h wi => ?_)
  · obtain ⟨s, rfl, _⟩ := h; rfl
  subst eP ew eK em eb
  have dn := d.dn
  have g_is_tuple_of : glB (defScope s_is_book) "is_tuple_of" = true := by decide +kernel
  have g_is_int : glB (defScope s_is_book) "is_int" = true := by decide +kernel
  have g_ML : glB (defScope s_is_book) "MOST_LETTERS" = true := by decide +kernel
  have g_all : glB (defScope s_is_book) "all" = true := by decide +kernel
  have g_len : glB (defScope s_is_book) "len" = true := by decide +kernel
  have g_isi : glB (defScope s_is_book) "isinstance" = true := by decide +kernel
  have g_tup : glB (defScope s_is_book) "tuple" = true := by decide +kernel
  have n0 : nmB ["value", "base", "shades", "blocks", "shade", "block"] (defScope s_is_book) 0 "value" = true := by decide +kernel
  have n1 : nmB ["value", "base", "shades", "blocks", "shade", "block"] (defScope s_is_book) 1 "base" = true := by decide +kernel
  have n2 : nmB ["value", "base", "shades", "blocks", "shade", "block"] (defScope s_is_book) 2 "shades" = true := by decide +kernel
  have n3 : nmB ["value", "base", "shades", "blocks", "shade", "block"] (defScope s_is_book) 3 "blocks" = true := by decide +kernel
  obtain ⟨t1, t2, t3, t4, t5, t6⟩ := T
  obtain ⟨s, rfl, hk, q⟩ := h
  conv => pattern (defBody _); whnf
  show SSs X G _ [some s, none, none, none, none, none] M _
  have q0 : isBook s = false → Q (.bl false) M := fun e => by rw [e] at q; exact q
  walk_at "go"
  refine ⟨_, _, rfl, hk, QB.mk ⟨fun c => ?_, fun c => ?_⟩⟩
  · walk_at "go"
    exact ⟨_, Sub.refl, q0 (isBook_no c)⟩
  refine sb_nil ?_
  obtain ⟨a1, a2, a3, rfl⟩ := isTupN_3 c
  have kx : ∀ s, s ∈ [a1, a2, a3] → Kn M s := by cases hk; assumption
  have k1 := kx a1 (by simp)
  have k2 := kx a2 (by simp)
  have k3 := kx a3 (by simp)
  -- base, shades, blocks = value
  refine sb_cons ?_
  refine ss_asg ?_
  walk_at "go"
  refine sg_tup (hc := d.calm) ?_
  refine sgs_cons ?_
  refine dx_tgt d 1 (by decide +kernel) ?_
  refine sgs_cons ?_
  refine dx_tgt d 2 (by decide +kernel) ?_
  refine sgs_cons ?_
  refine dx_tgt d 3 (by decide +kernel) ?_
  refine sgs_nil ?_
  show SSs X G _ [some (.tup [a1, a2, a3]), some a1, some a2, some a3, none, none] M _
  have q1 : ∀ {b : Bool}, isBook3 a1 a2 a3 = b → Q (.bl b) M := fun e => by rw [← e]; exact q
  -- if not is_int(base) or base not in (2, 3, 4)
  walk_at "go"
  refine ⟨_, rfl, k1, QB.mk ⟨fun c => ⟨fun _ => ?_, fun z => (by cases z)⟩, fun c => ?_⟩⟩
  · walk_at "go"
    refine ⟨_, Sub.refl, q1 ?_⟩
    have e : isBase a1 = false := by cases a1 <;> first | rfl | (cases c)
    unfold isBook3
    rw [e]
    rfl
  obtain ⟨b, rfl⟩ : ∃ b, a1 = .int b := by cases a1 <;> first | exact ⟨_, rfl⟩ | (cases c)
  walk_at "go"
  refine ⟨by decide, ?_⟩
  refine rc_notInI (ns := [2, 3, 4]) (QB.mk ⟨fun c => ?_, fun c => ?_⟩)
  · walk_at "go"
    refine ⟨_, Sub.refl, q1 ?_⟩
    have e : isBase (.int b) = false := by show List.contains _ _ = false; simpa using c
    unfold isBook3
    rw [e]
    rfl
  refine sb_nil ?_
  have eB : isBase (.int b) = true := by
    show ([2, 3, 4] : List Int).contains b = true
    cases z : ([2, 3, 4] : List Int).contains b with
    | true => rfl
    | false => rw [z] at c; cases c
  have bB : b ≤ 4 := by
    have z : ([2, 3, 4] : List Int).contains b = true := eB
    simp at z
    omega
  -- if not isinstance(shades, tuple) or not 1 <= len(shades) <= MOST_LETTERS
  walk_at "go"
  refine QB.mk ⟨fun c => ⟨fun _ => ?_, fun z => (by cases z)⟩, fun c => ?_⟩
  · walk_at "go"
    refine ⟨_, Sub.refl, q1 ?_⟩
    have e : isTup a2 = false := by simpa using c
    unfold isBook3
    rw [e, eB]
    rfl
  obtain ⟨sh, rfl⟩ : ∃ sh, a2 = .tup sh := by cases a2 <;> first | exact ⟨_, rfl⟩ | (cases c)
  walk_at "go"
  refine rch_leI (fun c => QB.mk ⟨fun _ => ?_, fun z => (by cases z)⟩) (fun c1 => ?_)
  · walk_at "go"
    refine ⟨_, Sub.refl, q1 ?_⟩
    have e : decide (1 ≤ (items (.tup sh)).length) = false := decide_eq_false (by show ¬ 1 ≤ sh.length; omega)
    unfold isBook3
    rw [e, eB]
    rfl
  obtain ⟨tML, hML⟩ := hML
  refine se_glob (v := .int 64) (gl_of dn g_ML) hML ⟨_, rfl⟩ (fun _ => .int 64) ?_
  walk_at "go"
  refine QB.mk ⟨fun c => ?_, fun c => ?_⟩
  · walk_at "go"
    refine ⟨_, Sub.refl, q1 ?_⟩
    have c' : ¬ (sh.length : Int) ≤ 64 := by
      intro z
      rw [decide_eq_true z] at c
      cases c
    have e : decide ((items (.tup sh)).length ≤ 64) = false := decide_eq_false (by show ¬ sh.length ≤ 64; omega)
    unfold isBook3
    rw [e, eB, Bool.and_false]
    rfl
  refine sb_nil ?_
  have c2 : (sh.length : Int) ≤ 64 := by
    cases z : decide ((sh.length : Int) ≤ 64) with
    | true => exact of_decide_eq_true z
    | false => rw [z] at c; cases c
  have eS : (isTup (.tup sh) && decide (1 ≤ (items (.tup sh)).length) && decide ((items (.tup sh)).length ≤ 64)) = true := by
    rw [decide_eq_true (show 1 ≤ (items (.tup sh)).length by show 1 ≤ sh.length; omega), decide_eq_true (show (items (.tup sh)).length ≤ 64 by show sh.length ≤ 64; omega)]
    rfl
  -- if not is_tuple_of(blocks, len(shades))
  walk_at "go"
  refine ⟨_, _, rfl, k3, QB.mk ⟨fun c => ?_, fun c => ?_⟩⟩
  · walk_at "go"
    refine ⟨_, Sub.refl, q1 ?_⟩
    have e : isTupN (items (.tup sh)).length a3 = false := by
      cases z : isTupN (sh.length : Int) a3 with
      | true => rw [z] at c; cases c
      | false => exact z
    unfold isBook3
    rw [e, eB, eS]
    rfl
  refine sb_nil ?_
  have eT : isTupN (items (.tup sh)).length a3 = true := by
    cases z : isTupN (sh.length : Int) a3 with
    | true => exact z
    | false => rw [z] at c; cases c
  obtain ⟨bl, rfl⟩ : ∃ bl, a3 = .tup bl := by cases a3 <;> first | exact ⟨_, rfl⟩ | (cases eT)
  have hbl : (bl.length : Int) = sh.length := of_decide_eq_true eT
  have q2 : ∀ {b' : Bool}, (sh.all isShade && bl.all (isBlk b sh.length)) = b' → Q (.bl b') M := fun {b'} e => q1 (by
    unfold isBook3
    rw [eB, eS, eT]
    exact e)
  have kS : ∀ s, s ∈ sh → Kn M s := by cases k2; assumption
  have kB : ∀ s, s ∈ bl → Kn M s := by cases k3; assumption
  walk_at "go"
  refine dx_map dn d.nd 4 (by decide +kernel) (fun _ => rfl) ?_
  refine si_tup ?_
  walk_at "go"
  refine ⟨_, rfl, fun s => .bl (isShade s), small1000 (by omega), fun _ _ => True.intro, fun D M' hD hM s hs s0 H0 C0 cl0 fp0 dn1 => ?_, fun D M' hD hM eD => ?_⟩
  · refine dn_call dn1 F_is_shade (by decide +kernel) (by decide) (by decide) rfl rfl ?_
    refine sa_cons ?_
    refine dn_name dn1 4 (by decide +kernel) rfl ?_
    refine sa_nil ?_
    exact ⟨_, rfl, (kS s hs).sub hM, rfl, Sub.refl⟩
  have e : sh.map (fun s => S.bl (isShade s)) = (sh.map isShade).map S.bl := by rw [List.map_map]; rfl
  rw [e] at eD
  walk_at "go"
  refine rb_all eD ⟨_, rfl, fun c => ?_, fun c => ⟨M, hM, q2 ?_⟩⟩ d.calm
  · rw [List.all_map] at c
    have cS : sh.all isShade = true := c
    walk_at "go"
    refine dx_map dn d.nd 5 (by decide +kernel) (fun _ => rfl) ?_
    refine si_tup ?_
    walk_at "go"
    refine ⟨_, rfl, fun s => .bl (isBlk b sh.length s), small1000 (by omega), fun _ _ => True.intro, fun D2 M2 hD2 hM2 s hs s0 H0 C0 cl0 fp0 dn1 => ?_, fun D2 M2 hD2 hM2 eD2 => ?_⟩
    · refine dn_call dn1 F_is_block (by decide +kernel) (by decide) (by decide) rfl rfl ?_
      refine sa_cons ?_
      refine dn_name dn1 5 (by decide +kernel) rfl ?_
      refine sa_cons ?_
      refine dn_name dn1 1 (by decide +kernel) rfl ?_
      refine sa_cons ?_
      refine dn_callB dn1 t1 bf_len (by decide +kernel) (by decide) (by decide) rfl rfl ?_
      refine sa_cons ?_
      refine dn_name dn1 2 (by decide +kernel) rfl ?_
      walk_at "go"
      exact ⟨_, _, _, rfl, (kB s hs).sub (hM.trans hM2), by omega, rfl, Sub.refl⟩
    · walk_at "go"
      have e : bl.map (fun s => S.bl (isBlk b sh.length s)) = (bl.map (isBlk b sh.length)).map S.bl := by rw [List.map_map]; rfl
      rw [e] at eD2
      refine rb_all eD2 ⟨M, hM.trans hM2, q2 ?_⟩ d.calm
      rw [cS, List.all_map]
      rfl
  · rw [List.all_map] at c
    have cS : sh.all isShade = false := c
    rw [cS]
    rfl
/-- what a picture is -/
def isPic : S → Bool
  | .tup [a1, a2] => isBook a1 && isLet (items (match a1 with | .tup [_, x, _] => x | _ => .non)).length a2
  | _ => false
def C_is_picture : Con := fun ss M Q _ => ∃ s, ss = [s] ∧ Kn M s ∧ Q (.bl (isPic s)) M
theorem isTupN_2 {s : S} (c : (!isTupN 2 s) = false) : ∃ a1 a2, s = .tup [a1, a2] := by
  cases s with
  | tup xs =>
    have z : (!decide ((xs.length : Int) = 2)) = false := c
    have z2 : (xs.length : Int) = 2 := by simpa using z
    match xs, z2 with
    | [_, _], _ => exact ⟨_, _, rfl⟩
    | [], z => simp at z
    | [_], z => simp at z
    | _ :: _ :: _ :: r, z => simp at z; omega
  | _ => exact absurd c (by show ¬ (!false) = false; decide)
theorem isPic_no {s : S} (c : (!isTupN 2 s) = true) : isPic s = false := by
  unfold isPic
  split
  · rename_i a1 a2
    have z : (!decide ((([a1, a2] : List S).length : Int) = 2)) = true := c
    exact absurd z (by show ¬ (!decide ((2 : Int) = 2)) = true; decide)
  · rfl
theorem isBook_parts {s : S} (h : isBook s = true) : ∃ b sh bl, s = .tup [.int b, .tup sh, .tup bl] ∧ 1 ≤ sh.length ∧ sh.length ≤ 64 ∧ bl.length = sh.length ∧ (b = 2 ∨ b = 3 ∨ b = 4) ∧ sh.all isShade = true ∧ bl.all (isBlk b sh.length) = true := by
  unfold isBook at h
  split at h
  · rename_i a1 a2 a3
    unfold isBook3 at h
    simp only [Bool.and_eq_true, decide_eq_true_eq] at h
    obtain ⟨⟨⟨⟨h1, ⟨h2, h3⟩, h4⟩, h5⟩, h6⟩, h7⟩ := h
    obtain ⟨b, rfl⟩ : ∃ b, a1 = .int b := by cases a1 <;> first | exact ⟨_, rfl⟩ | (cases h1)
    obtain ⟨sh, rfl⟩ : ∃ sh, a2 = .tup sh := by cases a2 <;> first | exact ⟨_, rfl⟩ | (cases h2)
    obtain ⟨bl, rfl⟩ : ∃ bl, a3 = .tup bl := by cases a3 <;> first | exact ⟨_, rfl⟩ | (cases h5)
    have z : ([2, 3, 4] : List Int).contains b = true := h1
    have z5 : (bl.length : Int) = sh.length := of_decide_eq_true h5
    refine ⟨b, sh, bl, rfl, h3, h4, by omega, ?_, h6, h7⟩
    simp at z
    omega
  · cases h
theorem sc_is_picture : FnScope ["value", "book", "letter"] ["value"] (defScope s_is_picture) := ⟨rfl, rfl, rfl, by decide +kernel, rfl, by decide +kernel, by decide +kernel⟩
theorem ok_is_picture {f : Addr} {fd : FuncData} (F : Fun K "is_picture" "is_picture" s_is_picture f fd) (T : Txt mg) (F_is_tuple_of : Fn P w K mg base "is_tuple_of" 1 C_is_tuple_of) (F_is_int : Fn P w K mg base "is_int" 1 C_is_int)
    (F_is_book : Fn P w K mg base "is_book" 4 C_is_book) : FnOk P w K mg base (L2.CX P w) 5 f fd ["value"] (SpC K C_is_picture) := by
  refine def_ok F sc_is_picture (fun ss M Q E h => ?_) (fun X G eP ew eK em eb d ss M Q E h wi => ?_)
  · obtain ⟨s, rfl, _⟩ := h; rfl
  subst eP ew eK em eb
  have dn := d.dn
  have g_is_tuple_of : glB (defScope s_is_picture) "is_tuple_of" = true := by decide +kernel
  have g_is_int : glB (defScope s_is_picture) "is_int" = true := by decide +kernel
  have g_is_book : glB (defScope s_is_picture) "is_book" = true := by decide +kernel
  have g_len : glB (defScope s_is_picture) "len" = true := by decide +kernel
  have n0 : nmB ["value", "book", "letter"] (defScope s_is_picture) 0 "value" = true := by decide +kernel
  have n1 : nmB ["value", "book", "letter"] (defScope s_is_picture) 1 "book" = true := by decide +kernel
  have n2 : nmB ["value", "book", "letter"] (defScope s_is_picture) 2 "letter" = true := by decide +kernel
  obtain ⟨t1, t2, t3, t4, t5, t6⟩ := T
  obtain ⟨s, rfl, hk, q⟩ := h
  conv => pattern (defBody _); whnf
  show SSs X G _ [some s, none, none] M _
  walk_at "go"
  refine ⟨_, _, rfl, hk, QB.mk ⟨fun c => ?_, fun c => ?_⟩⟩
  · walk_at "go"
    rw [isPic_no c] at q
    exact ⟨_, Sub.refl, q⟩
  refine sb_nil ?_
  obtain ⟨a1, a2, rfl⟩ := isTupN_2 c
  have kx : ∀ s, s ∈ [a1, a2] → Kn M s := by cases hk; assumption
  have k1 := kx a1 (by simp)
  have k2 := kx a2 (by simp)
  refine sb_cons ?_
  refine ss_asg ?_
  walk_at "go"
  refine sg_tup (hc := d.calm) ?_
  refine sgs_cons ?_
  refine dx_tgt d 1 (by decide +kernel) ?_
  refine sgs_cons ?_
  refine dx_tgt d 2 (by decide +kernel) ?_
  refine sgs_nil ?_
  show SSs X G _ [some (.tup [a1, a2]), some a1, some a2] M _
  walk_at "go"
  refine ⟨_, rfl, k1, _, rfl, fun c1 => ?_, fun c1 => ⟨_, Sub.refl, ?_⟩⟩
  · obtain ⟨b, sh, bl, rfl, _⟩ := isBook_parts c1
    have e : isPic (.tup [.tup [.int b, .tup sh, .tup bl], a2]) = isLet sh.length a2 := by
      show (isBook _ && isLet sh.length a2) = _
      rw [c1]
      rfl
    rw [e] at q
    walk_at "go"
    refine ⟨_, rfl, k2, _, rfl, fun c2 => ?_, fun c2 => ⟨_, Sub.refl, ?_⟩⟩
    · obtain ⟨i, rfl⟩ : ∃ i, a2 = .int i := by cases a2 <;> first | exact ⟨_, rfl⟩ | (cases c2)
      walk_at "go"
      refine rch_leI (fun c3 => ⟨_, Sub.refl, ?_⟩) (fun c3 => ?_)
      · have e : isLet (sh.length : Int) (.int i) = false := by show (decide (0 ≤ i) && _) = false; rw [decide_eq_false c3]; rfl
        rw [e] at q
        exact q
      · walk_at "go"
        refine rx_tup (atI_nat (j := 1) rfl) ?_
        walk_at "go"
        have e : isLet (sh.length : Int) (.int i) = decide (i < sh.length) := by show (decide (0 ≤ i) && _) = _; rw [decide_eq_true c3]; rfl
        rw [e] at q
        exact ⟨_, Sub.refl, q⟩
    · have e : isLet (sh.length : Int) a2 = false := by cases a2 <;> first | rfl | (cases c2)
      rw [e] at q
      exact q
  · have e : isPic (.tup [a1, a2]) = false := by
      show (isBook a1 && _) = false
      rw [c1]
      rfl
    rw [e] at q
    exact q
end
end Sy

set_option Elab.async false
set_option linter.all false
set_option maxRecDepth 100000
set_option maxHeartbeats 1000000
namespace Sy
open PySem PySem.Spec PyProof.Rows L2
local macro_rules | `(tactic| walk_at "nm") => `(tactic| ((with_reducible refine' dn_name ?d _ ?h ?he ?q); (case d => assumption); (case h => with_reducible assumption); (case he => rfl)))
local macro_rules | `(tactic| walk_at "cn") => `(tactic| first | with_reducible refine se_int ?_ | with_reducible refine se_bl ?_ | with_reducible refine se_non ?_ | with_reducible refine se_str ?_)
local macro_rules | `(tactic| walk_at "ct") => `(tactic| ((with_reducible refine' dn_callT ?d ?m ?v ?g ?n ?db ?st ?pl ?q); (case d => assumption); (case m => with_reducible assumption); (case v => first | with_reducible exact bt_int | with_reducible exact bt_tuple | with_reducible exact bt_list | with_reducible exact bt_str | with_reducible exact bt_bool); (case g => with_reducible assumption); (case n => decide); (case db => decide); (case st => rfl); (case pl => rfl)))
local macro_rules | `(tactic| walk_at "cb") => `(tactic| ((with_reducible refine' dn_callB ?d ?m ?v ?g ?n ?db ?st ?pl ?q); (case d => assumption); (case m => with_reducible assumption); (case v => first | with_reducible exact bf_len | with_reducible exact bf_isinstance | with_reducible exact bf_all | with_reducible exact bf_max | with_reducible exact bf_min | with_reducible exact bf_abs | with_reducible exact bf_sum | with_reducible exact bf_any); (case g => with_reducible assumption); (case n => decide); (case db => decide); (case st => rfl); (case pl => rfl)))
local macro_rules | `(tactic| walk_at "cf") => `(tactic| ((with_reducible refine' dn_call ?d ?F ?g ?k ?db ?st ?pl ?q); (case d => assumption); (case F => with_reducible assumption); (case g => with_reducible assumption); (case k => decide); (case db => decide); (case st => rfl); (case pl => rfl)))
local macro_rules | `(tactic| walk_at "tv") => `(tactic| ((with_reducible refine' dn_ty ?d ?m ?v ?g ?n ?db ?q); (case d => assumption); (case m => with_reducible assumption); (case v => first | with_reducible exact bt_int | with_reducible exact bt_tuple | with_reducible exact bt_list | with_reducible exact bt_str | with_reducible exact bt_bool); (case g => with_reducible assumption); (case n => decide); (case db => decide)))
local macro_rules | `(tactic| walk_at "e") => `(tactic| first | walk_at "nm" | walk_at "cn" | with_reducible refine se_bin ?_ | ((with_reducible refine' se_cmp ?q ?st); (case st => first | exact nomark _ | rfl)) | ((with_reducible refine' se_ix ?q ?st); (case st => exact fun _ _ => rfl)) | with_reducible refine sa_nil ?_ | ((with_reducible refine' sa_cons ?q ?st); (case st => rfl)) | walk_at "cf" | walk_at "cb" | walk_at "ct" | walk_at "tv" | with_reducible refine se_one ?_ | ((with_reducible refine' se_chain ?q ?st); (case st => with_unfolding_all rfl)) | with_reducible refine se_tup ?_ | with_reducible refine se_lst ?_ | with_reducible refine se_and ?_ | with_reducible refine se_or ?_ | with_reducible refine se_not ?_ | with_reducible refine se_un ?_ )
local macro_rules | `(tactic| walk_at "v") => `(tactic| first | with_reducible refine ro_addI ?_ | with_reducible refine ro_subI ?_ | with_reducible refine rc_eqI ?_ | with_reducible refine rc_neI ?_ | with_reducible refine rc_ltI ?_ | with_reducible refine rc_leI ?_ | with_reducible refine rc_gtI ?_ | with_reducible refine rc_geI ?_ | with_reducible refine rb_intI ?_ | with_reducible refine ru_neg ?_ | with_reducible refine rb_tupleT ?_ | ((with_reducible refine rb_isInt ?h ?q); (case h => assumption)) | ((with_reducible refine rb_isBool ?h ?q); (case h => assumption)) | ((with_reducible refine rb_isTup ?h ?q); (case h => assumption)) | with_reducible refine rb_len its_tup ?_ | (refine rx_tup (by rfl) ?_) | ((with_reducible refine' rx_lst ?h ?a ?q); (case h => with_reducible assumption); (case a => rfl)))
local macro_rules | `(tactic| walk_at "s") => `(tactic| first | with_reducible refine sb_one ?_ | with_reducible refine sb_cons ?_ | with_reducible refine ss_ret (se_fg ?_) | with_reducible refine ss_if ?_ | ((with_reducible refine' ss_expr ?q ?st); (case st => rfl)) | ((with_reducible refine' dx_set ?d _ ?h ?hs ?q); (case d => assumption); (case h => with_reducible assumption); (case hs => rfl)))
local macro_rules | `(tactic| walk_at "t") => `(tactic| first | with_reducible refine st_not ?_ | ((with_reducible refine' st_cmp ?q ?st); (case st => first | exact nomark _ | rfl)) | with_reducible refine sw_and1 ?_ | with_reducible refine sw_or1 ?_ | with_reducible refine sw_or ?_ | with_reducible refine sw_and ?_ | ((with_reducible refine' st_chain ?q ?st); (case st => with_unfolding_all rfl)) | (refine st_of ?_; first | with_reducible refine sw_or ?_ | with_reducible refine sw_and ?_) | ((with_reducible refine' st_val ?q ?st); (case st => intro _; rfl)))
local macro_rules | `(tactic| walk_at "go") => `(tactic| repeat (first | walk_at "e" | walk_at "v" | walk_at "s" | walk_at "t"))
abbrev s_ink : Stmt := topS 10
abbrev s_drip : Stmt := topS 11
abbrev s_wide : Stmt := topS 12
abbrev s_plain : Stmt := topS 13
abbrev s_at : Stmt := topS 14
abbrev s_with : Stmt := topS 15
abbrev s_path : Stmt := topS 16
abbrev s_odd : Stmt := topS 17
abbrev s_bounds : Stmt := topS 18
abbrev s_told : Stmt := topS 19
abbrev s_spoilt : Stmt := topS 20
abbrev s_pictures : Stmt := topS 21
abbrev s_others : Stmt := topS 22
abbrev s_bases : Stmt := topS 23
abbrev s_right : Stmt := topS 24
abbrev s_law : Stmt := topS 25
def inkB : Nat := 1048700
/-- the ink at p, behind n drips at most -/
def Ink (M : Mem) (p : Addr) (n : Nat) : Prop := ∃ a b c : Int, M p = some (.lst [.int a, .int b, .int c]) ∧ (0 ≤ a ∧ a.natAbs < 2 ^ inkB) ∧ (0 ≤ b ∧ b < 2 ^ 90) ∧ 0 ≤ c ∧ c ≤ n
/-- all but what stands at p is as it was -/
def But (p : Addr) (M M' : Mem) : Prop := ∀ q, q ≠ p → M' q = M q
theorem But.put {M : Mem} {p : Addr} {o : MO} : But p M (updM M p o) := fun q h => updM_ne h
theorem But.trans {p : Addr} {M M1 M2 : Mem} (a : But p M M1) (b : But p M1 M2) : But p M M2 := fun q h => (b q h).trans (a q h)
theorem But.refl {p : Addr} {M : Mem} : But p M M := fun _ _ => rfl
def C_drip : Con := fun ss M Q _ => ∃ p m n, ss = [.ptr p, .int m] ∧ Ink M p n ∧ n ≤ 2 ^ 50 ∧ 1 ≤ m ∧ m < 2 ^ 200 ∧ ∀ r M', 0 ≤ r → r < m → Ink M' p (n + 1) → But p M M' → Q (.int r) M'
theorem natAbs_lt {i : Int} {a : Nat} (h0 : 0 ≤ i) (h : i < 2 ^ a) : i.natAbs < 2 ^ a := by
  have e : ((2 ^ a : Nat) : Int) = (2 : Int) ^ a := by simp
  omega
section
variable {P : Program} {w : World} {K : PySem.W.Frag} {mg : Str → Option Value} {base : Heap}
theorem sc_drip : FnScope ["_law_ink_here", "_law_many", "_law_drop", "_law_mixed"] ["_law_ink_here", "_law_many"] (defScope s_drip) := ⟨rfl, rfl, rfl, by decide +kernel, rfl, by decide +kernel, by decide +kernel⟩
theorem ok_drip {f : Addr} {fd : FuncData} (F : Fun K "_law_drip" "_law_drip" s_drip f fd) (T : Txt mg) : FnOk P w K mg base (L2.CX P w) 1 f fd ["_law_ink_here", "_law_many"] (SpC K C_drip) := by
  refine def_ok F sc_drip (fun ss M Q E h => ?_) (fun X G eP ew eK em eb d ss M Q E h wi => ?_)
  · obtain ⟨p, m, n, rfl, _⟩ := h; rfl
  subst eP ew eK em eb
  have dn := d.dn
  have n0 : nmB ["_law_ink_here", "_law_many", "_law_drop", "_law_mixed"] (defScope s_drip) 0 "_law_ink_here" = true := by decide +kernel
  have n1 : nmB ["_law_ink_here", "_law_many", "_law_drop", "_law_mixed"] (defScope s_drip) 1 "_law_many" = true := by decide +kernel
  have n2 : nmB ["_law_ink_here", "_law_many", "_law_drop", "_law_mixed"] (defScope s_drip) 2 "_law_drop" = true := by decide +kernel
  have n3 : nmB ["_law_ink_here", "_law_many", "_law_drop", "_law_mixed"] (defScope s_drip) 3 "_law_mixed" = true := by decide +kernel
  have l2 : lcB ["_law_ink_here", "_law_many", "_law_drop", "_law_mixed"] (defScope s_drip) 2 "_law_drop" = true := by decide +kernel
  have l3 : lcB ["_law_ink_here", "_law_many", "_law_drop", "_law_mixed"] (defScope s_drip) 3 "_law_mixed" = true := by decide +kernel
  have g_int : glB (defScope s_drip) "int" = true := by decide +kernel
  obtain ⟨t1, t2, t3, t4, t5, t6⟩ := T
  obtain ⟨p, m, n, rfl, ⟨a, b, c, hp, ⟨ha0, ha1⟩, ⟨hb0, hb1⟩, hc0, hc1⟩, hn, hm1, hm2, q⟩ := h
  have hmN : m.natAbs < 2 ^ 200 := natAbs_lt (by omega) hm2
  conv => pattern (defBody _); whnf
  show SSs X G _ [some (.ptr p), some (.int m), none, none] M _
  walk_at "go"
  refine QB.mk ⟨fun c1 => ?_, fun c1 => ?_⟩
  · have hpos : 0 < a := of_decide_eq_true c1
    walk_at "go"
    refine ro_modI (by omega) ?_
    refine sb_cons ?_
    refine ss_asg ?_
    walk_at "go"
    refine ro_divI (by omega) hmN (by decide) (by decide) ?_
    refine sg_item ?_
    walk_at "go"
    refine ⟨p, _, 0, 0, rfl, rfl, hp, rfl, ?_⟩
    walk_at "go"
    refine ⟨_, Sub.refl, q _ _ (Int.emod_nonneg _ (by omega)) (Int.emod_lt_of_pos _ (by omega)) ⟨a / m, b, c, updM_same, ⟨Int.ediv_nonneg (by omega) (by omega), ?_⟩, ⟨hb0, hb1⟩, hc0, by omega⟩ But.put⟩
    have h1 : a / m ≤ a := Int.ediv_le_self _ ha0
    have h0 : 0 ≤ a / m := Int.ediv_nonneg (by omega) (by omega)
    omega
  refine sb_nil ?_
  refine sb_cons ?_
  refine ss_asg ?_
  walk_at "go"
  refine sg_item ?_
  walk_at "go"
  refine ⟨p, _, 2, 2, rfl, rfl, hp, rfl, ?_⟩
  have hp2 : (updM M p (.lst [.int a, .int b, .int (c + 1)])) p = some (.lst [.int a, .int b, .int (c + 1)]) := updM_same
  show SSs X G _ [some (.ptr p), some (.int m), none, none] (updM M p (.lst [.int a, .int b, .int (c + 1)])) _
  have eP : (2 : Int) ^ 90 = 1237940039285380274899124224 := by decide
  have eN : (2 : Int) ^ 50 = 1125899906842624 := by decide
  have hn' : (n : Int) ≤ 1125899906842624 := by omega
  walk_at "go"
  refine ro_mulI (.inl ⟨by decide, by decide⟩) ?_
  walk_at "go"
  refine ro_powI (k := 3) (a := 92) (natAbs_lt (by omega) (by omega)) (by decide) (by decide) ?_
  walk_at "go"
  refine ro_powI (k := 29) (a := 8) (by decide) (by decide) (by decide) ?_
  walk_at "go"
  have e29 : (10 : Int) ^ 29 + 319 = 100000000000000000000000000319 := by decide
  refine ro_modI (by omega) ?_
  generalize hx : (b + 32452867 * (c + 1)) ^ 3 % (10 ^ 29 + 319) = x
  have hx0 : 0 ≤ x := by rw [← hx]; exact Int.emod_nonneg _ (by omega)
  have hx1 : x < 100000000000000000000000000319 := by rw [← hx, ← e29]; exact Int.emod_lt_of_pos _ (by omega)
  walk_at "go"
  refine ro_mulW (a := 97) (b := 98) (natAbs_lt hx0 (by have : (2 : Int) ^ 97 = 158456325028528675187087900672 := by decide
                                                        omega)) (natAbs_lt (by omega) (by have : (2 : Int) ^ 98 = 316912650057057350374175801344 := by decide
                                                                                          omega)) (by decide) ?_
  walk_at "go"
  refine ro_powI (k := 28) (a := 8) (by decide) (by decide) (by decide) ?_
  walk_at "go"
  have e28 : (10 : Int) ^ 28 + 331 = 10000000000000000000000000331 := by decide
  refine ro_modI (by omega) ?_
  walk_at "go"
  refine ro_divI (b := 20) (by decide) (by decide) (by decide) (by decide) ?_
  walk_at "go"
  refine ro_modI (by omega) ?_
  exact ⟨_, Sub.refl, q _ _ (Int.emod_nonneg _ (by omega)) (Int.emod_lt_of_pos _ (by omega)) ⟨a, b, c + 1, updM_same, ⟨ha0, ha1⟩, ⟨hb0, hb1⟩, by omega, by omega⟩ But.put⟩
end
end Sy

set_option Elab.async false
set_option linter.all false
set_option maxRecDepth 100000
set_option maxHeartbeats 1000000
namespace Sy
open PySem PySem.Spec PyProof.Rows L2
local macro_rules | `(tactic| walk_at "nm") => `(tactic| ((with_reducible refine' dn_name ?d _ ?h ?he ?q); (case d => assumption); (case h => with_reducible assumption); (case he => rfl)))
local macro_rules | `(tactic| walk_at "cn") => `(tactic| first | with_reducible refine se_int ?_ | with_reducible refine se_bl ?_ | with_reducible refine se_non ?_ | with_reducible refine se_str ?_)
local macro_rules | `(tactic| walk_at "ct") => `(tactic| ((with_reducible refine' dn_callT ?d ?m ?v ?g ?n ?db ?st ?pl ?q); (case d => assumption); (case m => with_reducible assumption); (case v => first | with_reducible exact bt_int | with_reducible exact bt_tuple | with_reducible exact bt_list | with_reducible exact bt_str | with_reducible exact bt_bool); (case g => with_reducible assumption); (case n => decide); (case db => decide); (case st => rfl); (case pl => rfl)))
local macro_rules | `(tactic| walk_at "cb") => `(tactic| ((with_reducible refine' dn_callB ?d ?m ?v ?g ?n ?db ?st ?pl ?q); (case d => assumption); (case m => with_reducible assumption); (case v => first | with_reducible exact bf_len | with_reducible exact bf_isinstance | with_reducible exact bf_all | with_reducible exact bf_max | with_reducible exact bf_min | with_reducible exact bf_abs | with_reducible exact bf_sum | with_reducible exact bf_any); (case g => with_reducible assumption); (case n => decide); (case db => decide); (case st => rfl); (case pl => rfl)))
local macro_rules | `(tactic| walk_at "cf") => `(tactic| ((with_reducible refine' dn_call ?d ?F ?g ?k ?db ?st ?pl ?q); (case d => assumption); (case F => with_reducible assumption); (case g => with_reducible assumption); (case k => decide); (case db => decide); (case st => rfl); (case pl => rfl)))
local macro_rules | `(tactic| walk_at "tv") => `(tactic| ((with_reducible refine' dn_ty ?d ?m ?v ?g ?n ?db ?q); (case d => assumption); (case m => with_reducible assumption); (case v => first | with_reducible exact bt_int | with_reducible exact bt_tuple | with_reducible exact bt_list | with_reducible exact bt_str | with_reducible exact bt_bool); (case g => with_reducible assumption); (case n => decide); (case db => decide)))
local macro_rules | `(tactic| walk_at "e") => `(tactic| first | walk_at "nm" | walk_at "cn" | with_reducible refine se_bin ?_ | ((with_reducible refine' se_cmp ?q ?st); (case st => first | exact nomark _ | rfl)) | ((with_reducible refine' se_ix ?q ?st); (case st => exact fun _ _ => rfl)) | with_reducible refine sa_nil ?_ | ((with_reducible refine' sa_cons ?q ?st); (case st => rfl)) | walk_at "cf" | walk_at "cb" | walk_at "ct" | walk_at "tv" | with_reducible refine se_one ?_ | ((with_reducible refine' se_chain ?q ?st); (case st => with_unfolding_all rfl)) | with_reducible refine se_tup ?_ | with_reducible refine se_lst ?_ | with_reducible refine se_and ?_ | with_reducible refine se_or ?_ | with_reducible refine se_not ?_ | with_reducible refine se_un ?_ )
local macro_rules | `(tactic| walk_at "v") => `(tactic| first | with_reducible refine ro_addI ?_ | with_reducible refine ro_subI ?_ | with_reducible refine rc_eqI ?_ | with_reducible refine rc_neI ?_ | with_reducible refine rc_ltI ?_ | with_reducible refine rc_leI ?_ | with_reducible refine rc_gtI ?_ | with_reducible refine rc_geI ?_ | with_reducible refine rb_intI ?_ | with_reducible refine ru_neg ?_ | with_reducible refine rb_tupleT ?_ | ((with_reducible refine rb_isInt ?h ?q); (case h => assumption)) | ((with_reducible refine rb_isBool ?h ?q); (case h => assumption)) | ((with_reducible refine rb_isTup ?h ?q); (case h => assumption)) | with_reducible refine rb_len its_tup ?_ | (refine rx_tup (by rfl) ?_) | ((with_reducible refine' rx_lst ?h ?a ?q); (case h => with_reducible assumption); (case a => rfl)))
local macro_rules | `(tactic| walk_at "s") => `(tactic| first | with_reducible refine sb_one ?_ | with_reducible refine sb_cons ?_ | with_reducible refine ss_ret (se_fg ?_) | with_reducible refine ss_if ?_ | ((with_reducible refine' ss_expr ?q ?st); (case st => rfl)) | ((with_reducible refine' dx_set ?d _ ?h ?hs ?q); (case d => assumption); (case h => with_reducible assumption); (case hs => rfl)))
local macro_rules | `(tactic| walk_at "t") => `(tactic| first | with_reducible refine st_not ?_ | ((with_reducible refine' st_cmp ?q ?st); (case st => first | exact nomark _ | rfl)) | with_reducible refine sw_and1 ?_ | with_reducible refine sw_or1 ?_ | with_reducible refine sw_or ?_ | with_reducible refine sw_and ?_ | ((with_reducible refine' st_chain ?q ?st); (case st => with_unfolding_all rfl)) | (refine st_of ?_; first | with_reducible refine sw_or ?_ | with_reducible refine sw_and ?_) | ((with_reducible refine' st_val ?q ?st); (case st => intro _; rfl)))
local macro_rules | `(tactic| walk_at "go") => `(tactic| repeat (first | walk_at "e" | walk_at "v" | walk_at "s" | walk_at "t"))
theorem dats_ints {M : Mem} : ∀ ns : List Int, Dats M (ns.map S.int) (ns.map PyData.int)
  | [] => .nil
  | n :: ns => .cons (.int n) (dats_ints ns)
theorem canLay_ints : ∀ ns : List Int, PyData.canLayAll0 (ns.map PyData.int) = true
  | [] => rfl
  | n :: ns => by
    show (true && PyData.canLayAll0 (ns.map PyData.int)) = true
    rw [canLay_ints ns]
    rfl
theorem depthAll_ints : ∀ ns : List Int, PyData.depthAll (ns.map PyData.int) ≤ 1
  | [] => by simp [PyData.depthAll]
  | n :: ns => by
    have ih := depthAll_ints ns
    simp only [List.map_cons, PyData.depthAll, PyData.depth]
    omega
theorem depth_ints (ns : List Int) : PyData.depth (.list (ns.map PyData.int)) ≤ 64 := by
  have h := depthAll_ints ns
  simp only [PyData.depth]
  omega
theorem shaped_ints (ns : List Int) : SeqAt.shaped (.list (ns.map PyData.int)) = true := by
  unfold SeqAt.shaped
  rw [show PyData.canLay0 (.list (ns.map PyData.int)) = true from canLay_ints ns, decide_eq_true (depth_ints ns)]
  rfl
theorem eqv_ints : ∀ ns ms : List Int, PyData.eqv (.list (ns.map PyData.int)) (.list (ms.map PyData.int)) = decide (ns = ms)
  | [], [] => rfl
  | [], _ :: _ => rfl
  | _ :: _, [] => rfl
  | n :: ns, m :: ms => by
    have ih : PyData.eqvAll (ns.map PyData.int) (ms.map PyData.int) = decide (ns = ms) := eqv_ints ns ms
    show ((n == m) && PyData.eqvAll (ns.map PyData.int) (ms.map PyData.int)) = _
    rw [ih]
    by_cases h : n = m
    · subst h; simp
    · simp [h]
theorem rc_eqIs {X : Cx} {M : Mem} {Q : QS} {N : List Str} {sc : Scope} {k : Nat} {p r : Addr} {ns ms : List Int} (dn : DN X N sc k) (hp : M p = some (.lst (ns.map S.int))) (hr : M r = some (.lst (ms.map S.int))) (q : Q (.bl (decide (ns = ms))) M) : RC X .Eq (.ptr p) (.ptr r) M Q :=
  rc_eqD dn (.lst hp (dats_ints ns)) (.lst hr (dats_ints ms)) (shaped_ints ns) (shaped_ints ms) (by rw [eqv_ints]; exact q)
theorem flat_rep {α : Type} (x : α) : ∀ n : Nat, (List.replicate n [x]).flatten = List.replicate n x
  | 0 => rfl
  | n + 1 => by rw [List.replicate_succ, List.flatten_cons, flat_rep x n]; rfl
/-! thing[k1][k2].. -/
def atS : S → List Int → Option S
  | s, [] => some s
  | .tup xs, k :: r => (atI xs k).bind fun x => atS x r
  | _, _ :: _ => none
def C_at : Con := fun ss M Q _ => ∃ t q ns v, ss = [t, .ptr q] ∧ M q = some (.lst (ns.map S.int)) ∧ atS t ns = some v ∧ Q v M
def C_told : Con := fun ss M Q _ => ∃ v b c, ss = [v, .bl b, .bl c] ∧ Kn M v ∧ Q (.bl (decide (isBook v = b) && decide (isPic v = c))) M
def boundsS (ns : List Int) (l : Int) : Int × Int := if ns = [0] then (2, 4) else if ns.length = 2 then (0, 3) else (0, l - 1)
def C_bounds : Con := fun ss M Q _ => ∃ q ns l, ss = [.ptr q, .int l] ∧ M q = some (.lst (ns.map S.int)) ∧ Q (.tup [.int (boundsS ns l).1, .int (boundsS ns l).2]) M
def plainS (b L : Nat) : S := .tup [.int b, .tup (List.replicate L (.int 3)), .tup (List.replicate L (.tup (List.replicate b (.tup (List.replicate b (.int ((L : Int) - 1)))))))]
def C_plain : Con := fun ss M Q _ => ∃ b L : Nat, ss = [.int b, .int L] ∧ 2 ≤ b ∧ b ≤ 4 ∧ 2 ≤ L ∧ L ≤ 1000 ∧ Q (plainS b L) M
section
variable {P : Program} {w : World} {K : PySem.W.Frag} {mg : Str → Option Value} {base : Heap}
theorem sc_at : FnScope ["_law_thing", "_law_path_here", "_law_k"] ["_law_thing", "_law_path_here"] (defScope s_at) := ⟨rfl, rfl, rfl, by decide +kernel, rfl, by decide +kernel, by decide +kernel⟩
theorem ok_at {f : Addr} {fd : FuncData} (F : Fun K "_law_at" "_law_at" s_at f fd) : FnOk P w K mg base (L2.CX P w) 1 f fd ["_law_thing", "_law_path_here"] (SpC K C_at) := by
  refine def_ok F sc_at (fun ss M Q E h => ?_) (fun X G eP ew eK em eb d ss M Q E h wi => ?_)
  · obtain ⟨t, q, ns, v, rfl, _⟩ := h; rfl
  subst eP ew eK em eb
  have dn := d.dn
  have n0 : nmB ["_law_thing", "_law_path_here", "_law_k"] (defScope s_at) 0 "_law_thing" = true := by decide +kernel
  have n1 : nmB ["_law_thing", "_law_path_here", "_law_k"] (defScope s_at) 1 "_law_path_here" = true := by decide +kernel
  have n2 : nmB ["_law_thing", "_law_path_here", "_law_k"] (defScope s_at) 2 "_law_k" = true := by decide +kernel
  have l0 : lcB ["_law_thing", "_law_path_here", "_law_k"] (defScope s_at) 0 "_law_thing" = true := by decide +kernel
  have l2 : lcB ["_law_thing", "_law_path_here", "_law_k"] (defScope s_at) 2 "_law_k" = true := by decide +kernel
  obtain ⟨t, r, ns, v, rfl, hr, hv, q⟩ := h
  conv => pattern (defBody _); whnf
  show SSs X G _ [some t, some (.ptr r), none] M _
  refine sb_cons ?_
  refine dx_for d (fun _ => rfl) ?_
  refine si_lst ?_
  walk_at "go"
  refine ⟨r, _, rfl, hr, fun i v' M' => M' = M ∧ ∃ cur x, v' = [some cur, some (.ptr r), x] ∧ atS cur (ns.drop i) = some v, ⟨rfl, t, none, rfl, hv⟩, fun i v' M' ⟨e, _⟩ => by rw [e]; exact hr, ?_, ?_⟩
  · rintro i x v' M' ex ⟨rfl, cur, y, rfl, hc⟩
    rw [List.getElem?_map] at ex
    obtain ⟨n, en, rfl⟩ := Option.map_eq_some_iff.mp ex
    have hd : ns.drop i = n :: ns.drop (i + 1) := by
      obtain ⟨hi, e⟩ := List.getElem?_eq_some_iff.mp en
      rw [List.drop_eq_getElem_cons hi, e]
    rw [hd] at hc
    refine dx_tgt d 2 l2 ?_
    show SSs X G _ [some cur, some (.ptr r), some (.int n)] M' _
    obtain ⟨xs, rfl⟩ : ∃ xs, cur = .tup xs := by cases cur <;> first | exact ⟨_, rfl⟩ | (cases hc)
    have hc' : (atI xs n).bind (fun x => atS x (ns.drop (i + 1))) = some v := hc
    obtain ⟨z, ez, hz⟩ := Option.bind_eq_some_iff.mp hc'
    walk_at "go"
    refine rx_tup ez ?_
    exact ⟨rfl, z, some (.int n), rfl, hz⟩
  · rintro v' M' ⟨rfl, cur, y, rfl, hc⟩
    rw [List.length_map, List.drop_length] at hc
    walk_at "go"
    have e : cur = v := Option.some.inj hc
    rw [e]
    exact ⟨_, Sub.refl, q⟩
theorem sc_told : FnScope ["_law_value", "_law_book", "_law_picture", "_law_told_here", "_law_beside"] ["_law_value", "_law_book", "_law_picture"] (defScope s_told) := ⟨rfl, rfl, rfl, by decide +kernel, rfl, by decide +kernel, by decide +kernel⟩
theorem ok_told {f : Addr} {fd : FuncData} (F : Fun K "_law_told" "_law_told" s_told f fd) (T : Txt mg) (F_is_book : Fn P w K mg base "is_book" 4 C_is_book) (F_is_picture : Fn P w K mg base "is_picture" 5 C_is_picture) : FnOk P w K mg base (L2.CX P w) 6 f fd ["_law_value", "_law_book", "_law_picture"] (SpC K C_told) := by
  refine def_ok F sc_told (fun ss M Q E h => ?_) (fun X G eP ew eK em eb d ss M Q E h wi => ?_)
  · obtain ⟨v, b, c, rfl, _⟩ := h; rfl
  subst eP ew eK em eb
  have dn := d.dn
  have n0 : nmB ["_law_value", "_law_book", "_law_picture", "_law_told_here", "_law_beside"] (defScope s_told) 0 "_law_value" = true := by decide +kernel
  have n1 : nmB ["_law_value", "_law_book", "_law_picture", "_law_told_here", "_law_beside"] (defScope s_told) 1 "_law_book" = true := by decide +kernel
  have n2 : nmB ["_law_value", "_law_book", "_law_picture", "_law_told_here", "_law_beside"] (defScope s_told) 2 "_law_picture" = true := by decide +kernel
  have n3 : nmB ["_law_value", "_law_book", "_law_picture", "_law_told_here", "_law_beside"] (defScope s_told) 3 "_law_told_here" = true := by decide +kernel
  have n4 : nmB ["_law_value", "_law_book", "_law_picture", "_law_told_here", "_law_beside"] (defScope s_told) 4 "_law_beside" = true := by decide +kernel
  have g1 : glB (defScope s_told) "is_book" = true := by decide +kernel
  have g2 : glB (defScope s_told) "is_picture" = true := by decide +kernel
  have g3 : glB (defScope s_told) "isinstance" = true := by decide +kernel
  have g4 : glB (defScope s_told) "bool" = true := by decide +kernel
  obtain ⟨t1, t2, t3, t4, t5, t6⟩ := T
  obtain ⟨v, b, c, rfl, hk, q⟩ := h
  conv => pattern (defBody _); whnf
  show SSs X G _ [some v, some (.bl b), some (.bl c), none, none] M _
  refine sb_cons ?_
  refine dx_par d 3 4 (by decide +kernel) (by decide +kernel) (by decide) (by unfold swappedStores; simp only [Env.blockKind, Env.kindOf, d.sc]; rfl) rfl ?_
  walk_at "go"
  refine ⟨_, rfl, hk, ?_⟩
  walk_at "go"
  refine ⟨_, rfl, hk, ?_⟩
  walk_at "go"
  refine ⟨_, _, rfl, ?_⟩
  show SSs X G _ [some v, some (.bl b), some (.bl c), some (.bl (isBook v)), some (.bl (isPic v))] M _
  have kb : ∀ b : Bool, Kn M (.bl b) := fun b => .bl b
  walk_at "go"
  refine rb_isBool (kb _) (QB.mk ⟨fun c => (by cases c), fun _ => ?_⟩)
  walk_at "go"
  refine rb_isBool (kb _) (QB.mk ⟨fun c => (by cases c), fun _ => ?_⟩)
  refine sb_nil ?_
  walk_at "go"
  refine rc_eqB ?_
  refine ⟨_, rfl, fun z => ?_, fun z => ?_⟩
  · walk_at "go"
    refine rc_eqB ?_
    refine ⟨_, Sub.refl, ?_⟩
    rw [z] at q
    exact q
  · rw [z] at q
    exact ⟨_, Sub.refl, q⟩
theorem sc_bounds : FnScope ["_law_path_here", "_law_letters"] ["_law_path_here", "_law_letters"] (defScope s_bounds) := ⟨rfl, rfl, rfl, by decide +kernel, rfl, by decide +kernel, by decide +kernel⟩
theorem ok_bounds {f : Addr} {fd : FuncData} (F : Fun K "_law_bounds" "_law_bounds" s_bounds f fd) (T : Txt mg) : FnOk P w K mg base (L2.CX P w) 1 f fd ["_law_path_here", "_law_letters"] (SpC K C_bounds) := by
  refine def_ok F sc_bounds (fun ss M Q E h => ?_) (fun X G eP ew eK em eb d ss M Q E h wi => ?_)
  · obtain ⟨r, ns, l, rfl, _⟩ := h; rfl
  subst eP ew eK em eb
  have dn := d.dn
  have n0 : nmB ["_law_path_here", "_law_letters"] (defScope s_bounds) 0 "_law_path_here" = true := by decide +kernel
  have n1 : nmB ["_law_path_here", "_law_letters"] (defScope s_bounds) 1 "_law_letters" = true := by decide +kernel
  have g1 : glB (defScope s_bounds) "len" = true := by decide +kernel
  obtain ⟨t1, t2, t3, t4, t5, t6⟩ := T
  obtain ⟨r, ns, l, rfl, hr, q⟩ := h
  conv => pattern (defBody _); whnf
  show SSs X G _ [some (.ptr r), some (.int l)] M _
  walk_at "go"
  refine ⟨by decide, fun t ht => ?_⟩
  have s1 : Sub M (updM M t (.lst [.int 0])) := Sub.new ht
  refine rc_eqIs dn (s1 _ _ hr) (ms := [0]) updM_same (QB.mk ⟨fun c => ?_, fun c => ?_⟩)
  · have e : ns = [0] := of_decide_eq_true c
    walk_at "go"
    refine ⟨by simp only [List.length_cons, List.length_nil]; decide, _, s1, ?_⟩
    rw [show boundsS ns l = (2, 4) from if_pos e] at q
    exact q
  have e : ¬ ns = [0] := of_decide_eq_false c
  refine sb_nil ?_
  walk_at "go"
  refine rb_len (its_lst (s1 _ _ hr)) ?_
  walk_at "go"
  rw [List.length_map]
  refine QB.mk ⟨fun c => ?_, fun c => ?_⟩
  · have e2 : (ns.length : Int) = 2 := of_decide_eq_true c
    walk_at "go"
    refine ⟨by simp only [List.length_cons, List.length_nil]; decide, _, s1, ?_⟩
    rw [show boundsS ns l = (0, 3) from by unfold boundsS; rw [if_neg e, if_pos (by omega)]] at q
    exact q
  have e2 : ¬ (ns.length : Int) = 2 := of_decide_eq_false c
  walk_at "go"
  refine sb_nil ?_
  walk_at "go"
  refine ⟨by simp only [List.length_cons, List.length_nil]; decide, _, s1, ?_⟩
  rw [show boundsS ns l = (0, l - 1) from by unfold boundsS; rw [if_neg e, if_neg (by omega)]] at q
  exact q
theorem sc_plain : FnScope ["_law_base", "_law_letters"] ["_law_base", "_law_letters"] (defScope s_plain) := ⟨rfl, rfl, rfl, by decide +kernel, rfl, by decide +kernel, by decide +kernel⟩
theorem ok_plain {f : Addr} {fd : FuncData} (F : Fun K "_law_plain" "_law_plain" s_plain f fd) : FnOk P w K mg base (L2.CX P w) 1 f fd ["_law_base", "_law_letters"] (SpC K C_plain) := by
  refine def_ok F sc_plain (fun ss M Q E h => ?_) (fun X G eP ew eK em eb d ss M Q E h wi => ?_)
  · obtain ⟨b, L, rfl, _⟩ := h; rfl
  subst eP ew eK em eb
  have dn := d.dn
  have n0 : nmB ["_law_base", "_law_letters"] (defScope s_plain) 0 "_law_base" = true := by decide +kernel
  have n1 : nmB ["_law_base", "_law_letters"] (defScope s_plain) 1 "_law_letters" = true := by decide +kernel
  obtain ⟨b, L, rfl, b1, b2, L1, L2, q⟩ := h
  conv => pattern (defBody _); whnf
  show SSs X G _ [some (.int b), some (.int L)] M _
  walk_at "go"
  refine ⟨by simp only [List.length_cons, List.length_nil]; decide, ?_⟩
  walk_at "go"
  refine ro_repT (by simp) (by omega) (by omega) (by show 1 ≤ 1000; decide) ?_
  rw [flat_rep, Int.toNat_natCast]
  walk_at "go"
  refine ⟨by simp only [List.length_cons, List.length_nil]; decide, ?_⟩
  walk_at "go"
  refine ro_repT (by simp) (by omega) (by omega) (by show 1 ≤ 1000; decide) ?_
  rw [flat_rep, Int.toNat_natCast]
  walk_at "go"
  refine ⟨by simp only [List.length_cons, List.length_nil]; decide, ?_⟩
  walk_at "go"
  refine ro_repT (by simp) (by omega) (by omega) (by show 1 ≤ 1000; decide) ?_
  rw [flat_rep, Int.toNat_natCast]
  walk_at "go"
  refine ⟨by simp only [List.length_cons, List.length_nil]; decide, ?_⟩
  walk_at "go"
  refine ro_repT (by simp) (by omega) (by omega) (by show 1 ≤ 1000; decide) ?_
  rw [flat_rep, Int.toNat_natCast]
  walk_at "go"
  refine ⟨by simp only [List.length_cons, List.length_nil]; decide, ?_⟩
  exact ⟨_, Sub.refl, q⟩
end
end Sy

set_option Elab.async false
set_option linter.all false
set_option maxRecDepth 100000
set_option maxHeartbeats 1000000
namespace Sy
open PySem PySem.Spec PyProof.Rows L2
local macro_rules | `(tactic| walk_at "nm") => `(tactic| ((with_reducible refine' dn_name ?d _ ?h ?he ?q); (case d => assumption); (case h => with_reducible assumption); (case he => rfl)))
local macro_rules | `(tactic| walk_at "cn") => `(tactic| first | with_reducible refine se_int ?_ | with_reducible refine se_bl ?_ | with_reducible refine se_non ?_ | with_reducible refine se_str ?_)
local macro_rules | `(tactic| walk_at "ct") => `(tactic| ((with_reducible refine' dn_callT ?d ?m ?v ?g ?n ?db ?st ?pl ?q); (case d => assumption); (case m => with_reducible assumption); (case v => first | with_reducible exact bt_int | with_reducible exact bt_tuple | with_reducible exact bt_list | with_reducible exact bt_str | with_reducible exact bt_bool); (case g => with_reducible assumption); (case n => decide); (case db => decide); (case st => rfl); (case pl => rfl)))
local macro_rules | `(tactic| walk_at "cb") => `(tactic| ((with_reducible refine' dn_callB ?d ?m ?v ?g ?n ?db ?st ?pl ?q); (case d => assumption); (case m => with_reducible assumption); (case v => first | with_reducible exact bf_len | with_reducible exact bf_isinstance | with_reducible exact bf_all | with_reducible exact bf_max | with_reducible exact bf_min | with_reducible exact bf_abs | with_reducible exact bf_sum | with_reducible exact bf_any); (case g => with_reducible assumption); (case n => decide); (case db => decide); (case st => rfl); (case pl => rfl)))
local macro_rules | `(tactic| walk_at "cf") => `(tactic| ((with_reducible refine' dn_call ?d ?F ?g ?k ?db ?st ?pl ?q); (case d => assumption); (case F => with_reducible assumption); (case g => with_reducible assumption); (case k => decide); (case db => decide); (case st => rfl); (case pl => rfl)))
local macro_rules | `(tactic| walk_at "tv") => `(tactic| ((with_reducible refine' dn_ty ?d ?m ?v ?g ?n ?db ?q); (case d => assumption); (case m => with_reducible assumption); (case v => first | with_reducible exact bt_int | with_reducible exact bt_tuple | with_reducible exact bt_list | with_reducible exact bt_str | with_reducible exact bt_bool); (case g => with_reducible assumption); (case n => decide); (case db => decide)))
local macro_rules | `(tactic| walk_at "e") => `(tactic| first | walk_at "nm" | walk_at "cn" | with_reducible refine se_bin ?_ | ((with_reducible refine' se_cmp ?q ?st); (case st => first | exact nomark _ | rfl)) | ((with_reducible refine' se_ix ?q ?st); (case st => exact fun _ _ => rfl)) | with_reducible refine sa_nil ?_ | ((with_reducible refine' sa_cons ?q ?st); (case st => rfl)) | walk_at "cf" | walk_at "cb" | walk_at "ct" | walk_at "tv" | with_reducible refine se_one ?_ | ((with_reducible refine' se_chain ?q ?st); (case st => with_unfolding_all rfl)) | with_reducible refine se_tup ?_ | with_reducible refine se_lst ?_ | with_reducible refine se_and ?_ | with_reducible refine se_or ?_ | with_reducible refine se_not ?_ | with_reducible refine se_un ?_ )
local macro_rules | `(tactic| walk_at "v") => `(tactic| first | with_reducible refine ro_addI ?_ | with_reducible refine ro_subI ?_ | with_reducible refine rc_eqI ?_ | with_reducible refine rc_neI ?_ | with_reducible refine rc_ltI ?_ | with_reducible refine rc_leI ?_ | with_reducible refine rc_gtI ?_ | with_reducible refine rc_geI ?_ | with_reducible refine rb_intI ?_ | with_reducible refine ru_neg ?_ | with_reducible refine rb_tupleT ?_ | ((with_reducible refine rb_isInt ?h ?q); (case h => assumption)) | ((with_reducible refine rb_isBool ?h ?q); (case h => assumption)) | ((with_reducible refine rb_isTup ?h ?q); (case h => assumption)) | with_reducible refine rb_len its_tup ?_ | (refine rx_tup (by rfl) ?_) | ((with_reducible refine' rx_lst ?h ?a ?q); (case h => with_reducible assumption); (case a => rfl)))
local macro_rules | `(tactic| walk_at "ss") => `(tactic| first | with_reducible refine ss_ret (se_fg ?_) | with_reducible refine ss_if ?_ | ((with_reducible refine' ss_expr ?q ?st); (case st => rfl)) | ((with_reducible refine' dx_set ?d _ ?h ?hs ?q); (case d => assumption); (case h => with_reducible assumption); (case hs => rfl)))
local macro_rules | `(tactic| walk_at "s") => `(tactic| first | with_reducible refine sb_one ?_ | with_reducible refine sb_cons ?_ | walk_at "ss")
local macro_rules | `(tactic| walk_at "t") => `(tactic| first | with_reducible refine st_not ?_ | ((with_reducible refine' st_cmp ?q ?st); (case st => first | exact nomark _ | rfl)) | with_reducible refine sw_and1 ?_ | with_reducible refine sw_or1 ?_ | with_reducible refine sw_or ?_ | with_reducible refine sw_and ?_ | ((with_reducible refine' st_chain ?q ?st); (case st => with_unfolding_all rfl)) | (refine st_of ?_; first | with_reducible refine sw_or ?_ | with_reducible refine sw_and ?_) | ((with_reducible refine' st_val ?q ?st); (case st => intro _; rfl)))
local macro_rules | `(tactic| walk_at "go") => `(tactic| repeat (first | walk_at "e" | walk_at "v" | walk_at "s" | walk_at "t"))
local macro_rules | `(tactic| walk_at "gt") => `(tactic| repeat (first | walk_at "e" | walk_at "v" | walk_at "ss" | walk_at "t"))
theorem But.grow {p : Addr} {M M' : Mem} (h : But p M M') : Grow p M M' := fun a o n e => (h a n).trans e
def scB : Nat := 1048576
theorem two_le : (2 : Nat) ^ scB ≤ 2 ^ inkB := Nat.pow_le_pow_right (by decide) (by decide)
theorem small_le : 1000000 < (2 : Nat) ^ inkB := Nat.lt_of_lt_of_le (by decide : 1000000 < 2 ^ 20) (Nat.pow_le_pow_right (by decide) (by decide))
def C_ink : Con := fun ss M Q _ => ∃ (ns : List Int) (k : Int), ss = [.rdl (ns.map S.int), .int k] ∧ 0 ≤ k ∧ k ≤ 1000 ∧ ns.length ≤ 63 ∧ (∀ n, n ∈ ns → n.natAbs < 2 ^ scB) ∧ ∀ p M', M p = none → Ink M' p 0 → But p M M' → Q (.ptr p) M'
def putS : S → List Int → S → Option S
  | _, [], v => some v
  | .tup xs, k :: r, v => if 0 ≤ k then (xs[k.toNat]?).bind fun x => (putS x r v).map fun y => S.tup (xs.take k.toNat ++ y :: xs.drop (k.toNat + 1)) else none
  | _, _ :: _, _ => none
def smT : S → Prop
  | .tup xs => xs.length ≤ 1000
  | _ => True
/-- every tuple on the way has few items -/
def smP : S → List Int → Prop
  | _, [] => True
  | .tup xs, k :: r => xs.length ≤ 1000 ∧ ∀ x, xs[k.toNat]? = some x → smP x r
  | _, _ :: _ => True
def C_with (n : Nat) : Con := fun ss M Q _ => ∃ (t : S) (q : Addr) (ns : List Int) (v r : S), ss = [t, .ptr q, v] ∧ M q = some (.lst (ns.map S.int)) ∧ ns.length ≤ n ∧ putS t ns v = some r ∧ smP t ns ∧ Q r M
section
variable {P : Program} {w : World} {K : PySem.W.Frag} {mg : Str → Option Value} {base : Heap}
theorem sc_ink : FnScope ["_law_script", "_law_k", "_law_cell", "_law_other", "_law_total", "_law_mixed"] ["_law_script", "_law_k"] (defScope s_ink) := ⟨rfl, rfl, rfl, by decide +kernel, rfl, by decide +kernel, by decide +kernel⟩
theorem ok_ink {f : Addr} {fd : FuncData} (F : Fun K "_law_ink" "_law_ink" s_ink f fd) (T : Txt mg) (T2 : mg "sum" = none ∧ mg "max" = none ∧ mg "abs" = none) : FnOk P w K mg base (L2.CX P w) 1 f fd ["_law_script", "_law_k"] (SpC K C_ink) := by
  refine def_ok F sc_ink (fun ss M Q E h => ?_) (fun X G eP ew eK em eb d ss M Q E h wi => ?_)
  · obtain ⟨ns, k, rfl, _⟩ := h; rfl
  subst eP ew eK em eb
  have dn := d.dn
  have n0 : nmB ["_law_script", "_law_k", "_law_cell", "_law_other", "_law_total", "_law_mixed"] (defScope s_ink) 0 "_law_script" = true := by decide +kernel
  have n1 : nmB ["_law_script", "_law_k", "_law_cell", "_law_other", "_law_total", "_law_mixed"] (defScope s_ink) 1 "_law_k" = true := by decide +kernel
  have n2 : nmB ["_law_script", "_law_k", "_law_cell", "_law_other", "_law_total", "_law_mixed"] (defScope s_ink) 2 "_law_cell" = true := by decide +kernel
  have n4 : nmB ["_law_script", "_law_k", "_law_cell", "_law_other", "_law_total", "_law_mixed"] (defScope s_ink) 4 "_law_total" = true := by decide +kernel
  have n5 : nmB ["_law_script", "_law_k", "_law_cell", "_law_other", "_law_total", "_law_mixed"] (defScope s_ink) 5 "_law_mixed" = true := by decide +kernel
  have l2 : lcB ["_law_script", "_law_k", "_law_cell", "_law_other", "_law_total", "_law_mixed"] (defScope s_ink) 2 "_law_cell" = true := by decide +kernel
  have l4 : lcB ["_law_script", "_law_k", "_law_cell", "_law_other", "_law_total", "_law_mixed"] (defScope s_ink) 4 "_law_total" = true := by decide +kernel
  have l5 : lcB ["_law_script", "_law_k", "_law_cell", "_law_other", "_law_total", "_law_mixed"] (defScope s_ink) 5 "_law_mixed" = true := by decide +kernel
  have g1 : glB (defScope s_ink) "int" = true := by decide +kernel
  have g2 : glB (defScope s_ink) "sum" = true := by decide +kernel
  have g3 : glB (defScope s_ink) "max" = true := by decide +kernel
  have g4 : glB (defScope s_ink) "abs" = true := by decide +kernel
  have g5 : glB (defScope s_ink) "len" = true := by decide +kernel
  obtain ⟨t1, t2, t3, t4, t5, t6⟩ := T
  obtain ⟨t7, t8, t9⟩ := T2
  obtain ⟨ns, k, rfl, k0, k1, hl, hb, q⟩ := h
  conv => pattern (defBody _); whnf
  show SSs X G _ [some (.rdl (ns.map S.int)), some (.int k), none, none, none, none] M _
  walk_at "go"
  refine ro_mulI (.inl ⟨by decide, by decide⟩) ?_
  walk_at "go"
  refine rb_len its_rdl ?_
  walk_at "gt"
  show SSs X G _ [some (.rdl (ns.map S.int)), some (.int k), some (.int (31 * k + 7 + ((ns.map S.int).length : Int))), none, none, none] M _
  rw [List.length_map]
  refine sb_cut (fun env' M' => M' = M ∧ ∃ c : Int, env' = [some (.rdl (ns.map S.int)), some (.int k), some (.int c), none, none, none] ∧ c.natAbs < 2 ^ inkB) ?_ ?_
  · walk_at "go"
    refine rb_len its_rdl ?_
    walk_at "go"
    rw [List.length_map]
    refine QB.mk ⟨fun c => ?_, fun c => ?_⟩
    · have hk : k < ns.length := of_decide_eq_true c
      have hk2 : k.toNat < ns.length := by omega
      have ek : ((k.toNat : Nat) : Int) = k := by omega
      walk_at "go"
      have z : atI (ns.map S.int) ((k.toNat : Nat) : Int) = some (.int ns[k.toNat]) := atI_nat (by rw [List.getElem?_map, List.getElem?_eq_getElem hk2]; rfl)
      rw [ek] at z
      refine rx_rdl z ?_
      exact ⟨rfl, _, rfl, Nat.lt_of_lt_of_le (hb _ (List.getElem_mem hk2)) two_le⟩
    · refine sb_nil ?_
      refine ⟨rfl, _, rfl, Nat.lt_of_le_of_lt ?_ small_le⟩
      omega
  rintro env' M' ⟨rfl, c, rfl, hc⟩
  walk_at "go"
  refine dx_map dn d.nd 3 (by decide +kernel) (fun _ => rfl) ?_
  refine si_rdl ?_
  walk_at "go"
  refine ⟨_, rfl, fun s => .int (intOf s % (10 ^ 21 + 117)), small1000 (by rw [List.length_map]; omega), fun _ _ => True.intro, fun D1 M1 hD hM s hs s0 H0 C0 cl0 fp0 dn1 => ?_, fun D1 M1 hD hM eD => ?_⟩
  · obtain ⟨n, hn, rfl⟩ := List.mem_map.mp hs
    walk_at "go"
    refine dn_callT dn1 t4 bt_int (by decide +kernel) (by decide) (by decide) rfl rfl ?_
    refine sa_cons ?_
    refine dn_name dn1 3 (by decide +kernel) rfl ?_
    walk_at "go"
    refine ro_powI (k := 21) (a := 8) (by decide) (by decide) (by decide) ?_
    walk_at "go"
    exact ro_modI (by decide) ⟨rfl, Sub.refl⟩
  have e : (ns.map S.int).map (fun s => S.int (intOf s % (10 ^ 21 + 117))) = (ns.map fun n => n % (10 ^ 21 + 117)).map S.int := by rw [List.map_map, List.map_map]; rfl
  rw [e] at eD
  walk_at "go"
  refine rb_sum eD ?_ d.calm
  generalize hT : (ns.map fun n => n % (10 ^ 21 + 117)).sum = tot
  walk_at "go"
  refine ro_mulI (.inr ⟨by decide, by decide⟩) ?_
  walk_at "go"
  refine ro_mulI (.inr ⟨by decide, by decide⟩) ?_
  walk_at "go"
  refine ro_mulI (.inr ⟨by decide, by decide⟩) ?_
  walk_at "go"
  refine ro_powI (k := 27) (a := 8) (by decide) (by decide) (by decide) ?_
  walk_at "go"
  refine ro_modI (by decide) ?_
  generalize hx : (c * 15485867 + tot * 2750159 + k * 7368787) % (10 ^ 27 + 103) = x
  have hx0 : 0 ≤ x := by rw [← hx]; exact Int.emod_nonneg _ (by decide)
  have hx1 : x < 10 ^ 27 + 103 := by rw [← hx]; exact Int.emod_lt_of_pos _ (by decide)
  have e27 : (10 : Int) ^ 27 + 103 = 1000000000000000000000000103 := by decide
  have e90 : (2 : Int) ^ 90 = 1237940039285380274899124224 := by decide
  walk_at "go"
  refine rb_abs ?_
  walk_at "go"
  refine ro_powI (k := 18) (a := 8) (by decide) (by decide) (by decide) ?_
  walk_at "go"
  refine rb_max ?_ d.calm
  walk_at "go"
  refine ⟨by simp only [List.length_cons, List.length_nil]; decide, fun p hp => ⟨updM M' p _, (hM.put p _), q p _ (hM.free hp) ⟨_, x, 0, updM_same, ?_, ⟨hx0, by omega⟩, by omega, by omega⟩ But.put⟩⟩
  have h18 : (0 : Int) ≤ 10 ^ 18 := by decide
  generalize (10 : Int) ^ 18 = y at h18 ⊢
  constructor
  · split <;> omega
  · split <;> split <;> omega
theorem putS_cons {xs : List S} {k : Int} {r : List Int} {v z : S} (h : putS (.tup xs) (k :: r) v = some z) : 0 ≤ k ∧ ∃ x y, xs[k.toNat]? = some x ∧ putS x r v = some y ∧ z = .tup (xs.take k.toNat ++ y :: xs.drop (k.toNat + 1)) := by
  unfold putS at h
  split at h
  · rename_i h0
    obtain ⟨x, hx, h2⟩ := Option.bind_eq_some_iff.mp h
    obtain ⟨y, hy, e⟩ := Option.map_eq_some_iff.mp h2
    exact ⟨h0, x, y, hx, hy, e.symm⟩
  · cases h
theorem sc_with : FnScope ["_law_thing", "_law_path_here", "_law_value", "_law_at_here"] ["_law_thing", "_law_path_here", "_law_value"] (defScope s_with) := ⟨rfl, rfl, rfl, by decide +kernel, rfl, by decide +kernel, by decide +kernel⟩
theorem ok_with_step {f : Addr} {fd : FuncData} (F : Fun K "_law_with" "_law_with" s_with f fd) (n : Nat) (Fr : n = 0 ∨ Fn P w K mg base "_law_with" n (C_with (n - 1))) : FnOk P w K mg base (L2.CX P w) (n + 1) f fd ["_law_thing", "_law_path_here", "_law_value"] (SpC K (C_with n)) := by
  refine def_ok F sc_with (fun ss M Q E h => ?_) (fun X G eP ew eK em eb d ss M Q E h wi => ?_)
  · obtain ⟨t, q, ns, v, r, rfl, _⟩ := h; rfl
  subst eP ew eK em eb
  have dn := d.dn
  have n0 : nmB ["_law_thing", "_law_path_here", "_law_value", "_law_at_here"] (defScope s_with) 0 "_law_thing" = true := by decide +kernel
  have n1 : nmB ["_law_thing", "_law_path_here", "_law_value", "_law_at_here"] (defScope s_with) 1 "_law_path_here" = true := by decide +kernel
  have n2 : nmB ["_law_thing", "_law_path_here", "_law_value", "_law_at_here"] (defScope s_with) 2 "_law_value" = true := by decide +kernel
  have n3 : nmB ["_law_thing", "_law_path_here", "_law_value", "_law_at_here"] (defScope s_with) 3 "_law_at_here" = true := by decide +kernel
  have l3 : lcB ["_law_thing", "_law_path_here", "_law_value", "_law_at_here"] (defScope s_with) 3 "_law_at_here" = true := by decide +kernel
  have g1 : glB (defScope s_with) "_law_with" = true := by decide +kernel
  obtain ⟨t, p, ns, v, r, rfl, hp, hn, hput, hsm, q⟩ := h
  conv => pattern (defBody _); whnf
  show SSs X G _ [some t, some (.ptr p), some v, none] M _
  walk_at "go"
  refine ⟨by decide, fun u hu => ?_⟩
  have s1 : Sub M (updM M u (.lst [])) := Sub.new hu
  refine rc_eqIs dn (s1 _ _ hp) (ms := []) updM_same (QB.mk ⟨fun c => ?_, fun c => ?_⟩)
  · have e : ns = [] := of_decide_eq_true c
    subst e
    walk_at "go"
    have e : v = r := Option.some.inj hput
    rw [e]
    exact ⟨_, s1, q⟩
  have hne : ns ≠ [] := of_decide_eq_false c
  refine sb_nil ?_
  obtain ⟨k, ks, rfl⟩ := List.exists_cons_of_ne_nil hne
  have Fr' : Fn X.prog X.w X.K X.mg X.base "_law_with" n (C_with (n - 1)) := by
    rcases Fr with z | z
    · rw [z] at hn; simp at hn
    · exact z
  obtain ⟨xs, rfl⟩ : ∃ xs, t = .tup xs := by cases t <;> first | exact ⟨_, rfl⟩ | (cases hput)
  obtain ⟨k0, x, y, hx, hy, rfl⟩ := putS_cons hput
  have ek : ((k.toNat : Nat) : Int) = k := by omega
  obtain ⟨hxl, hsx⟩ := hsm
  have hp2 := s1 _ _ hp
  refine sb_cons ?_
  walk_at "gt"
  refine rx_lst hp2 (atI_nat (j := 0) rfl) ?_
  show SSs X G _ [some (.tup xs), some (.ptr p), some v, some (.int k)] _ _
  walk_at "go"
  refine se_cutT ?_
  walk_at "go"
  refine .none ?_
  refine .some ?_
  walk_at "go"
  refine ⟨_, rfl, ?_⟩
  refine ⟨_, rfl, ?_⟩
  refine se_tup ?_
  refine sa_cons ?_
  refine dn_call dn Fr' g1 (by omega) (by decide) rfl rfl ?_
  walk_at "go"
  refine rx_tup (s := x) (by rw [← ek]; exact atI_nat hx) ?_
  refine sa_cons ?_
  refine se_cutL ?_
  walk_at "go"
  refine .some ?_
  walk_at "go"
  refine ⟨_, rfl, ?_⟩
  refine .none ?_
  refine ⟨p, _, rfl, hp2, fun u2 hu2 => ?_⟩
  walk_at "go"
  have e1 : cutS ((k :: ks).map S.int) (some 1) none = ks.map S.int := cut_from _ 1
  rw [e1]
  have s2 : Sub M (updM (updM M u (.lst [])) u2 (.lst (ks.map S.int))) := s1.trans (Sub.new hu2)
  refine ⟨x, u2, ks, v, y, rfl, updM_same, by simp at hn; omega, hy, hsx x hx, ?_⟩
  walk_at "go"
  refine ⟨by simp only [List.length_cons, List.length_nil]; decide, ?_⟩
  have hxl' : k.toNat < xs.length := (List.getElem?_eq_some_iff.mp hx).1
  have e2 : cutS xs none (some k) = xs.take k.toNat := by rw [← ek]; exact cut_to xs _
  rw [e2]
  refine ro_catT (by rw [List.length_take]; simp only [List.length_cons, List.length_nil]; have := small1000 hxl; omega) ?_
  refine se_cutT ?_
  walk_at "go"
  refine .some ?_
  walk_at "go"
  refine ⟨_, rfl, ?_⟩
  refine .none ?_
  refine ⟨_, rfl, ?_⟩
  have e3 : cutS xs (some (k + 1)) none = xs.drop (k.toNat + 1) := by
    have z : k + 1 = ((k.toNat + 1 : Nat) : Int) := by omega
    rw [z]
    exact cut_from xs _
  rw [e3]
  refine ro_catT (by rw [List.length_append, List.length_take, List.length_drop]; simp only [List.length_cons, List.length_nil]; have := small1000 hxl; omega) ?_
  refine ⟨M, s2, ?_⟩
  rw [List.append_assoc]
  exact q
end
end Sy

set_option Elab.async false
set_option linter.all false
set_option maxRecDepth 100000
set_option maxHeartbeats 1000000
namespace Sy
open PySem PySem.Spec PyProof.Rows L2
local macro_rules | `(tactic| walk_at "nm") => `(tactic| ((with_reducible refine' dn_name ?d _ ?h ?he ?q); (case d => assumption); (case h => with_reducible assumption); (case he => rfl)))
local macro_rules | `(tactic| walk_at "cn") => `(tactic| first | with_reducible refine se_int ?_ | with_reducible refine se_bl ?_ | with_reducible refine se_non ?_ | with_reducible refine se_str ?_)
local macro_rules | `(tactic| walk_at "ct") => `(tactic| ((with_reducible refine' dn_callT ?d ?m ?v ?g ?n ?db ?st ?pl ?q); (case d => assumption); (case m => with_reducible assumption); (case v => first | with_reducible exact bt_int | with_reducible exact bt_tuple | with_reducible exact bt_list | with_reducible exact bt_str | with_reducible exact bt_bool); (case g => with_reducible assumption); (case n => decide); (case db => decide); (case st => rfl); (case pl => rfl)))
local macro_rules | `(tactic| walk_at "cb") => `(tactic| ((with_reducible refine' dn_callB ?d ?m ?v ?g ?n ?db ?st ?pl ?q); (case d => assumption); (case m => with_reducible assumption); (case v => first | with_reducible exact bf_len | with_reducible exact bf_isinstance | with_reducible exact bf_all | with_reducible exact bf_max | with_reducible exact bf_min | with_reducible exact bf_abs | with_reducible exact bf_sum | with_reducible exact bf_any); (case g => with_reducible assumption); (case n => decide); (case db => decide); (case st => rfl); (case pl => rfl)))
local macro_rules | `(tactic| walk_at "cf") => `(tactic| ((with_reducible refine' dn_call ?d ?F ?g ?k ?db ?st ?pl ?q); (case d => assumption); (case F => with_reducible assumption); (case g => with_reducible assumption); (case k => decide); (case db => decide); (case st => rfl); (case pl => rfl)))
local macro_rules | `(tactic| walk_at "tv") => `(tactic| ((with_reducible refine' dn_ty ?d ?m ?v ?g ?n ?db ?q); (case d => assumption); (case m => with_reducible assumption); (case v => first | with_reducible exact bt_int | with_reducible exact bt_tuple | with_reducible exact bt_list | with_reducible exact bt_str | with_reducible exact bt_bool); (case g => with_reducible assumption); (case n => decide); (case db => decide)))
local macro_rules | `(tactic| walk_at "e") => `(tactic| first | walk_at "nm" | walk_at "cn" | with_reducible refine se_bin ?_ | ((with_reducible refine' se_cmp ?q ?st); (case st => first | exact nomark _ | rfl)) | ((with_reducible refine' se_ix ?q ?st); (case st => exact fun _ _ => rfl)) | with_reducible refine sa_nil ?_ | ((with_reducible refine' sa_cons ?q ?st); (case st => rfl)) | walk_at "cf" | walk_at "cb" | walk_at "ct" | walk_at "tv" | with_reducible refine se_one ?_ | ((with_reducible refine' se_chain ?q ?st); (case st => with_unfolding_all rfl)) | with_reducible refine se_tup ?_ | with_reducible refine se_lst ?_ | with_reducible refine se_and ?_ | with_reducible refine se_or ?_ | with_reducible refine se_not ?_ | with_reducible refine se_un ?_ )
local macro_rules | `(tactic| walk_at "v") => `(tactic| first | with_reducible refine ro_addI ?_ | with_reducible refine ro_subI ?_ | with_reducible refine rc_eqI ?_ | with_reducible refine rc_neI ?_ | with_reducible refine rc_ltI ?_ | with_reducible refine rc_leI ?_ | with_reducible refine rc_gtI ?_ | with_reducible refine rc_geI ?_ | with_reducible refine rb_intI ?_ | with_reducible refine ru_neg ?_ | with_reducible refine rb_tupleT ?_ | ((with_reducible refine rb_isInt ?h ?q); (case h => assumption)) | ((with_reducible refine rb_isBool ?h ?q); (case h => assumption)) | ((with_reducible refine rb_isTup ?h ?q); (case h => assumption)) | with_reducible refine rb_len its_tup ?_ | (refine rx_tup (by rfl) ?_) | ((with_reducible refine' rx_lst ?h ?a ?q); (case h => with_reducible assumption); (case a => rfl)))
local macro_rules | `(tactic| walk_at "ss") => `(tactic| first | with_reducible refine ss_ret (se_fg ?_) | with_reducible refine ss_if ?_ | ((with_reducible refine' ss_expr ?q ?st); (case st => rfl)) | ((with_reducible refine' dx_set ?d _ ?h ?hs ?q); (case d => assumption); (case h => with_reducible assumption); (case hs => rfl)))
local macro_rules | `(tactic| walk_at "s") => `(tactic| first | with_reducible refine sb_one ?_ | with_reducible refine sb_cons ?_ | walk_at "ss")
local macro_rules | `(tactic| walk_at "t") => `(tactic| first | with_reducible refine st_not ?_ | ((with_reducible refine' st_cmp ?q ?st); (case st => first | exact nomark _ | rfl)) | with_reducible refine sw_and1 ?_ | with_reducible refine sw_or1 ?_ | with_reducible refine sw_or ?_ | with_reducible refine sw_and ?_ | ((with_reducible refine' st_chain ?q ?st); (case st => with_unfolding_all rfl)) | (refine st_of ?_; first | with_reducible refine sw_or ?_ | with_reducible refine sw_and ?_) | ((with_reducible refine' st_val ?q ?st); (case st => intro _; rfl)))
local macro_rules | `(tactic| walk_at "go") => `(tactic| repeat (first | walk_at "e" | walk_at "v" | walk_at "s" | walk_at "t"))
local macro_rules | `(tactic| walk_at "gt") => `(tactic| repeat (first | walk_at "e" | walk_at "v" | walk_at "ss" | walk_at "t"))
/-- the places that a path may name -/
inductive PathOk (b L : Int) : List Int → Prop
  | p0 : PathOk b L []
  | p1 : PathOk b L [0]
  | p2 : PathOk b L [1]
  | p3 {l : Int} (h0 : 0 ≤ l) (h1 : l < L) : PathOk b L [1, l]
  | p4 : PathOk b L [2]
  | p5 {l : Int} (h0 : 0 ≤ l) (h1 : l < L) : PathOk b L [2, l]
  | p6 {l i : Int} (h0 : 0 ≤ l) (h1 : l < L) (i0 : 0 ≤ i) (i1 : i < b) : PathOk b L [2, l, i]
  | p7 {l i j : Int} (h0 : 0 ≤ l) (h1 : l < L) (i0 : 0 ≤ i) (i1 : i < b) (j0 : 0 ≤ j) (j1 : j < b) : PathOk b L [2, l, i, j]
def C_path : Con := fun ss M Q _ => ∃ (p : Addr) (n : Nat) (b : Int) (sh : List S) (bl : S), ss = [.ptr p, .tup [.int b, .tup sh, bl]] ∧ Ink M p n ∧ n ≤ 2 ^ 49 ∧ 2 ≤ b ∧ b ≤ 4 ∧ 1 ≤ sh.length ∧ sh.length ≤ 64 ∧
  ∀ q ns M', PathOk b sh.length ns → M' q = some (.lst (ns.map S.int)) → q ≠ p → Ink M' p (n + 5) → Grow p M M' → Q (.ptr q) M'
theorem Ink.up {M : Mem} {p : Addr} {n m : Nat} (h : Ink M p n) (k : n ≤ m) : Ink M p m := by
  obtain ⟨a, b, c, h1, h2, h3, h4, h5⟩ := h
  exact ⟨a, b, c, h1, h2, h3, h4, by omega⟩
theorem Ink.there {M : Mem} {p : Addr} {n : Nat} (h : Ink M p n) : ∃ o, M p = some o := by
  obtain ⟨a, b, c, h1, _⟩ := h
  exact ⟨_, h1⟩
/-- a new list beside the ink -/
theorem Ink.new {M : Mem} {p q : Addr} {n : Nat} {o : MO} (h : Ink M p n) (hq : M q = none) : Ink (updM M q o) p n ∧ q ≠ p := by
  obtain ⟨a, b, c, h1, h2⟩ := h
  have ne : p ≠ q := neM h1 hq
  exact ⟨⟨a, b, c, (updM_ne ne).trans h1, h2⟩, ne.symm⟩
section
variable {P : Program} {w : World} {K : PySem.W.Frag} {mg : Str → Option Value} {base : Heap}
theorem sc_path : FnScope ["_law_ink_here", "_law_book", "_law_base", "_law_letters", "_law_block", "_law_row", "_law_letter"] ["_law_ink_here", "_law_book"] (defScope s_path) := ⟨rfl, rfl, rfl, by decide +kernel, rfl, by decide +kernel, by decide +kernel⟩
theorem ok_path {f : Addr} {fd : FuncData} (F : Fun K "_law_path" "_law_path" s_path f fd) (T : Txt mg) (F_drip : Fn P w K mg base "_law_drip" 1 C_drip) : FnOk P w K mg base (L2.CX P w) 2 f fd ["_law_ink_here", "_law_book"] (SpC K C_path) := by
  refine def_ok F sc_path (fun ss M Q E h => ?_) (fun X G eP ew eK em eb d ss M Q E h wi => ?_)
  · obtain ⟨p, n, b, sh, bl, rfl, _⟩ := h; rfl
  subst eP ew eK em eb
  have dn := d.dn
  have n0 : nmB ["_law_ink_here", "_law_book", "_law_base", "_law_letters", "_law_block", "_law_row", "_law_letter"] (defScope s_path) 0 "_law_ink_here" = true := by decide +kernel
  have n1 : nmB ["_law_ink_here", "_law_book", "_law_base", "_law_letters", "_law_block", "_law_row", "_law_letter"] (defScope s_path) 1 "_law_book" = true := by decide +kernel
  have n2 : nmB ["_law_ink_here", "_law_book", "_law_base", "_law_letters", "_law_block", "_law_row", "_law_letter"] (defScope s_path) 2 "_law_base" = true := by decide +kernel
  have n3 : nmB ["_law_ink_here", "_law_book", "_law_base", "_law_letters", "_law_block", "_law_row", "_law_letter"] (defScope s_path) 3 "_law_letters" = true := by decide +kernel
  have n4 : nmB ["_law_ink_here", "_law_book", "_law_base", "_law_letters", "_law_block", "_law_row", "_law_letter"] (defScope s_path) 4 "_law_block" = true := by decide +kernel
  have n5 : nmB ["_law_ink_here", "_law_book", "_law_base", "_law_letters", "_law_block", "_law_row", "_law_letter"] (defScope s_path) 5 "_law_row" = true := by decide +kernel
  have n6 : nmB ["_law_ink_here", "_law_book", "_law_base", "_law_letters", "_law_block", "_law_row", "_law_letter"] (defScope s_path) 6 "_law_letter" = true := by decide +kernel
  have l2 : lcB ["_law_ink_here", "_law_book", "_law_base", "_law_letters", "_law_block", "_law_row", "_law_letter"] (defScope s_path) 2 "_law_base" = true := by decide +kernel
  have l3 : lcB ["_law_ink_here", "_law_book", "_law_base", "_law_letters", "_law_block", "_law_row", "_law_letter"] (defScope s_path) 3 "_law_letters" = true := by decide +kernel
  have l4 : lcB ["_law_ink_here", "_law_book", "_law_base", "_law_letters", "_law_block", "_law_row", "_law_letter"] (defScope s_path) 4 "_law_block" = true := by decide +kernel
  have l5 : lcB ["_law_ink_here", "_law_book", "_law_base", "_law_letters", "_law_block", "_law_row", "_law_letter"] (defScope s_path) 5 "_law_row" = true := by decide +kernel
  have l6 : lcB ["_law_ink_here", "_law_book", "_law_base", "_law_letters", "_law_block", "_law_row", "_law_letter"] (defScope s_path) 6 "_law_letter" = true := by decide +kernel
  have g1 : glB (defScope s_path) "_law_drip" = true := by decide +kernel
  have g2 : glB (defScope s_path) "len" = true := by decide +kernel
  obtain ⟨t1, t2, t3, t4, t5, t6⟩ := T
  obtain ⟨p, n, b, sh, bl, rfl, hI, hn, b1, b2, L1, L2, q⟩ := h
  have e49 : (2 : Nat) ^ 50 = 1125899906842624 := by decide
  have e49' : (2 : Nat) ^ 49 = 562949953421312 := by decide
  have e200 : (1000 : Int) < 2 ^ 200 := by decide
  conv => pattern (defBody _); whnf
  show SSs X G _ [some (.ptr p), some (.tup [.int b, .tup sh, bl]), none, none, none, none, none] M _
  walk_at "go"
  -- _law_block = [2, drip(ink, letters)]
  refine ⟨p, _, n, rfl, hI, by omega, by omega, by omega, fun r1 M1 h1 h1' I1 B1 => ?_⟩
  walk_at "gt"
  refine ⟨by simp only [List.length_cons, List.length_nil]; decide, fun q1 hq1 => ?_⟩
  obtain ⟨I2, ne1⟩ := I1.new (o := .lst [.int 2, .int r1]) hq1
  have G2 : Grow p M (updM M1 q1 (.lst [.int 2, .int r1])) := B1.grow.trans (.new hq1)
  have c1 : (updM M1 q1 (.lst [.int 2, .int r1])) q1 = some (.lst [.int 2, .int r1]) := updM_same
  generalize updM M1 q1 (.lst [.int 2, .int r1]) = M2 at I2 G2 c1 ⊢
  show SSs X G _ [some (.ptr p), some (.tup [.int b, .tup sh, bl]), some (.int b), some (.int sh.length), some (.ptr q1), none, none] M2 _
  -- _law_row = _law_block + [drip(ink, base)]
  walk_at "go"
  refine ⟨p, _, _, rfl, I2, by omega, by omega, by omega, fun r2 M3 h2 h2' I3 B3 => ?_⟩
  walk_at "gt"
  refine ⟨by simp only [List.length_cons, List.length_nil]; decide, fun q2 hq2 => ?_⟩
  have c1' := (B3 q1 ne1).trans c1
  obtain ⟨I4, ne2⟩ := I3.new (o := .lst [.int r2]) hq2
  have G4 : Grow p M (updM M3 q2 (.lst [.int r2])) := G2.trans (B3.grow.trans (.new hq2))
  refine ro_catL ((updM_ne (neM c1' hq2)).trans c1') updM_same (by simp only [List.length_cons, List.length_nil]; decide) fun q3 hq3 => ?_
  obtain ⟨I5, ne3⟩ := I4.new (o := .lst [.int 2, .int r1, .int r2]) hq3
  have G5 : Grow p M (updM (updM M3 q2 (.lst [.int r2])) q3 (.lst [.int 2, .int r1, .int r2])) := G4.trans (.new hq3)
  have c2 : (updM (updM M3 q2 (.lst [.int r2])) q3 (.lst [.int 2, .int r1, .int r2])) q3 = some (.lst [.int 2, .int r1, .int r2]) := updM_same
  have c1 : (updM (updM M3 q2 (.lst [.int r2])) q3 (.lst [.int 2, .int r1, .int r2])) q1 = some (.lst [.int 2, .int r1]) := (updM_ne (neM ((updM_ne (neM c1' hq2)).trans c1') hq3)).trans ((updM_ne (neM c1' hq2)).trans c1')
  show SSs X G _ [some (.ptr p), some (.tup [.int b, .tup sh, bl]), some (.int b), some (.int sh.length), some (.ptr q1), some (.ptr q3), none] (updM (updM M3 q2 (.lst [.int r2])) q3 (.lst [.int 2, .int r1, .int r2])) _
  generalize updM (updM M3 q2 (.lst [.int r2])) q3 (.lst [.int 2, .int r1, .int r2]) = M5 at I5 G5 c1 c2 ⊢
  -- _law_letter = _law_row + [drip(ink, base)]
  walk_at "go"
  refine ⟨p, _, _, rfl, I5, by omega, by omega, by omega, fun r3 M6 h3 h3' I6 B6 => ?_⟩
  walk_at "gt"
  refine ⟨by simp only [List.length_cons, List.length_nil]; decide, fun q4 hq4 => ?_⟩
  have c1' := (B6 q1 ne1).trans c1
  have c2' := (B6 q3 ne3).trans c2
  obtain ⟨I7, ne4⟩ := I6.new (o := .lst [.int r3]) hq4
  have G7 : Grow p M (updM M6 q4 (.lst [.int r3])) := G5.trans (B6.grow.trans (.new hq4))
  refine ro_catL ((updM_ne (neM c2' hq4)).trans c2') updM_same (by simp only [List.length_cons, List.length_nil]; decide) fun q5 hq5 => ?_
  obtain ⟨I8, ne5⟩ := I7.new (o := .lst [.int 2, .int r1, .int r2, .int r3]) hq5
  have s8 : Sub M6 (updM (updM M6 q4 (.lst [.int r3])) q5 (.lst [.int 2, .int r1, .int r2, .int r3])) := (Sub.new hq4).trans (Sub.new hq5)
  have G8 : Grow p M (updM (updM M6 q4 (.lst [.int r3])) q5 (.lst [.int 2, .int r1, .int r2, .int r3])) := G7.trans (.new hq5)
  have c3 : (updM (updM M6 q4 (.lst [.int r3])) q5 (.lst [.int 2, .int r1, .int r2, .int r3])) q5 = some (.lst [.int 2, .int r1, .int r2, .int r3]) := updM_same
  have c2 := s8 _ _ c2'
  have c1 := s8 _ _ c1'
  show SSs X G _ [some (.ptr p), some (.tup [.int b, .tup sh, bl]), some (.int b), some (.int sh.length), some (.ptr q1), some (.ptr q3), some (.ptr q5)] (updM (updM M6 q4 (.lst [.int r3])) q5 (.lst [.int 2, .int r1, .int r2, .int r3])) _
  generalize updM (updM M6 q4 (.lst [.int r3])) q5 (.lst [.int 2, .int r1, .int r2, .int r3]) = M8 at I8 G8 c1 c2 c3 ⊢
  -- the list of all
  walk_at "go"
  refine ⟨by decide, fun u0 hu0 => ?_⟩
  walk_at "gt"
  refine ⟨by decide, fun u1 hu1 => ?_⟩
  walk_at "gt"
  refine ⟨by decide, fun u2 hu2 => ?_⟩
  have sA : Sub M8 (updM M8 u0 (.lst [])) := Sub.new hu0
  have sB := sA.trans (Sub.new (o := .lst [.int 0]) hu1)
  have sC := sB.trans (Sub.new (o := .lst [.int 1]) hu2)
  obtain ⟨J0, v0⟩ := I8.new (o := .lst []) hu0
  obtain ⟨J1, v1⟩ := J0.new (o := .lst [.int 0]) hu1
  obtain ⟨J2, v2⟩ := J1.new (o := .lst [.int 1]) hu2
  have d0 := (Sub.new (o := .lst [.int 1]) hu2) _ _ ((Sub.new (o := .lst [.int 0]) hu1) _ _ (updM_same (M := M8) (a := u0) (o := .lst [])))
  have d1 := (Sub.new (o := .lst [.int 1]) hu2) _ _ (updM_same (M := updM M8 u0 (.lst [])) (a := u1) (o := .lst [.int 0]))
  have d2 := updM_same (M := updM (updM M8 u0 (.lst [])) u1 (.lst [.int 0])) (a := u2) (o := .lst [.int 1])
  generalize updM (updM (updM M8 u0 (.lst [])) u1 (.lst [.int 0])) u2 (.lst [.int 1]) = M9 at sC J2 d0 d1 d2 ⊢
  walk_at "gt"
  refine ⟨p, _, _, rfl, J2, by omega, by omega, by omega, fun r4 MA h4 h4' IA BA => ?_⟩
  walk_at "gt"
  refine ⟨by simp only [List.length_cons, List.length_nil]; decide, fun u3 hu3 => ?_⟩
  walk_at "gt"
  refine ⟨by decide, fun u4 hu4 => ?_⟩
  walk_at "gt"
  refine ⟨by simp only [List.length_cons, List.length_nil]; decide, fun u5 hu5 => ?_⟩
  have nB0 := (BA u0 v0).trans d0
  have nB1 := (BA u1 v1).trans d1
  have nB2 := (BA u2 v2).trans d2
  have nBq1 := (BA q1 ne1).trans (sC _ _ c1)
  have nBq3 := (BA q3 ne3).trans (sC _ _ c2)
  have nBq5 := (BA q5 ne5).trans (sC _ _ c3)
  obtain ⟨K3, v3⟩ := IA.new (o := .lst [.int 1, .int r4]) hu3
  obtain ⟨K4, v4⟩ := K3.new (o := .lst [.int 2]) hu4
  obtain ⟨K5, v5⟩ := K4.new (o := .lst [.ptr u0, .ptr u1, .ptr u2, .ptr u3, .ptr u4, .ptr q1, .ptr q3, .ptr q5, .ptr q5]) hu5
  have sD := ((Sub.new (o := .lst [.int 1, .int r4]) hu3).trans (Sub.new (o := .lst [.int 2]) hu4)).trans (Sub.new (o := .lst [.ptr u0, .ptr u1, .ptr u2, .ptr u3, .ptr u4, .ptr q1, .ptr q3, .ptr q5, .ptr q5]) hu5)
  have d3 := (Sub.new (o := .lst [.ptr u0, .ptr u1, .ptr u2, .ptr u3, .ptr u4, .ptr q1, .ptr q3, .ptr q5, .ptr q5]) hu5) _ _ ((Sub.new (o := .lst [.int 2]) hu4) _ _ (updM_same (M := MA) (a := u3) (o := .lst [.int 1, .int r4])))
  have d4 := (Sub.new (o := .lst [.ptr u0, .ptr u1, .ptr u2, .ptr u3, .ptr u4, .ptr q1, .ptr q3, .ptr q5, .ptr q5]) hu5) _ _ (updM_same (M := updM MA u3 (.lst [.int 1, .int r4])) (a := u4) (o := .lst [.int 2]))
  have d5 := updM_same (M := updM (updM MA u3 (.lst [.int 1, .int r4])) u4 (.lst [.int 2])) (a := u5) (o := .lst [.ptr u0, .ptr u1, .ptr u2, .ptr u3, .ptr u4, .ptr q1, .ptr q3, .ptr q5, .ptr q5])
  have GB := ((G8.sub sC).trans BA.grow).sub sD
  generalize updM (updM (updM MA u3 (.lst [.int 1, .int r4])) u4 (.lst [.int 2])) u5 (.lst [.ptr u0, .ptr u1, .ptr u2, .ptr u3, .ptr u4, .ptr q1, .ptr q3, .ptr q5, .ptr q5]) = MB at sD K5 d3 d4 d5 GB ⊢
  walk_at "gt"
  refine ⟨p, _, _, rfl, K5, by omega, by decide, by decide, fun r5 MC h5 h5' IC BC => ?_⟩
  have hu5' := (BC u5 v5).trans d5
  refine rx_mem hu5' h5 (by simpa using h5') fun s hs => ⟨MC, Sub.refl, ?_⟩
  have GC := GB.trans BC.grow
  have fin : ∀ u ns, u ≠ p → MB u = some (.lst (ns.map S.int)) → PathOk b sh.length ns → Q (.ptr u) MC := fun u ns hu e po => q u ns MC po ((BC u hu).trans e) hu (IC.up (by omega)) GC
  simp only [List.mem_cons, List.not_mem_nil, or_false] at hs
  rcases hs with rfl | rfl | rfl | rfl | rfl | rfl | rfl | rfl | rfl
  · exact fin u0 [] v0 (sD _ _ nB0) .p0
  · exact fin u1 [0] v1 (sD _ _ nB1) .p1
  · exact fin u2 [1] v2 (sD _ _ nB2) .p2
  · exact fin u3 [1, r4] v3 d3 (.p3 h4 h4')
  · exact fin u4 [2] v4 d4 .p4
  · exact fin q1 [2, r1] ne1 (sD _ _ nBq1) (.p5 h1 h1')
  · exact fin q3 [2, r1, r2] ne3 (sD _ _ nBq3) (.p6 h1 h1' h2 h2')
  · exact fin q5 [2, r1, r2, r3] ne5 (sD _ _ nBq5) (.p7 h1 h1' h2 h2' h3 h3')
  · exact fin q5 [2, r1, r2, r3] ne5 (sD _ _ nBq5) (.p7 h1 h1' h2 h2' h3 h3')
end
end Sy

set_option Elab.async false
set_option linter.all false
set_option maxRecDepth 100000
set_option maxHeartbeats 1000000
namespace Sy
open PySem PySem.Spec PyProof.Rows L2
local macro_rules | `(tactic| walk_at "nm") => `(tactic| ((with_reducible refine' dn_name ?d _ ?h ?he ?q); (case d => assumption); (case h => with_reducible assumption); (case he => rfl)))
local macro_rules | `(tactic| walk_at "cn") => `(tactic| first | with_reducible refine se_int ?_ | with_reducible refine se_bl ?_ | with_reducible refine se_non ?_ | with_reducible refine se_str ?_)
local macro_rules | `(tactic| walk_at "ct") => `(tactic| ((with_reducible refine' dn_callT ?d ?m ?v ?g ?n ?db ?st ?pl ?q); (case d => assumption); (case m => with_reducible assumption); (case v => first | with_reducible exact bt_int | with_reducible exact bt_tuple | with_reducible exact bt_list | with_reducible exact bt_str | with_reducible exact bt_bool); (case g => with_reducible assumption); (case n => decide); (case db => decide); (case st => rfl); (case pl => rfl)))
local macro_rules | `(tactic| walk_at "cb") => `(tactic| ((with_reducible refine' dn_callB ?d ?m ?v ?g ?n ?db ?st ?pl ?q); (case d => assumption); (case m => with_reducible assumption); (case v => first | with_reducible exact bf_len | with_reducible exact bf_isinstance | with_reducible exact bf_all | with_reducible exact bf_max | with_reducible exact bf_min | with_reducible exact bf_abs | with_reducible exact bf_sum | with_reducible exact bf_any); (case g => with_reducible assumption); (case n => decide); (case db => decide); (case st => rfl); (case pl => rfl)))
local macro_rules | `(tactic| walk_at "cf") => `(tactic| ((with_reducible refine' dn_call ?d ?F ?g ?k ?db ?st ?pl ?q); (case d => assumption); (case F => with_reducible assumption); (case g => with_reducible assumption); (case k => decide); (case db => decide); (case st => rfl); (case pl => rfl)))
local macro_rules | `(tactic| walk_at "tv") => `(tactic| ((with_reducible refine' dn_ty ?d ?m ?v ?g ?n ?db ?q); (case d => assumption); (case m => with_reducible assumption); (case v => first | with_reducible exact bt_int | with_reducible exact bt_tuple | with_reducible exact bt_list | with_reducible exact bt_str | with_reducible exact bt_bool); (case g => with_reducible assumption); (case n => decide); (case db => decide)))
local macro_rules | `(tactic| walk_at "e") => `(tactic| first | walk_at "nm" | walk_at "cn" | with_reducible refine se_bin ?_ | ((with_reducible refine' se_cmp ?q ?st); (case st => first | exact nomark _ | rfl)) | ((with_reducible refine' se_ix ?q ?st); (case st => exact fun _ _ => rfl)) | with_reducible refine sa_nil ?_ | ((with_reducible refine' sa_cons ?q ?st); (case st => rfl)) | walk_at "cf" | walk_at "cb" | walk_at "ct" | walk_at "tv" | with_reducible refine se_one ?_ | ((with_reducible refine' se_chain ?q ?st); (case st => with_unfolding_all rfl)) | with_reducible refine se_tup ?_ | with_reducible refine se_lst ?_ | with_reducible refine se_and ?_ | with_reducible refine se_or ?_ | with_reducible refine se_not ?_ | with_reducible refine se_un ?_ )
local macro_rules | `(tactic| walk_at "v") => `(tactic| first | with_reducible refine ro_addI ?_ | with_reducible refine ro_subI ?_ | with_reducible refine rc_eqI ?_ | with_reducible refine rc_neI ?_ | with_reducible refine rc_ltI ?_ | with_reducible refine rc_leI ?_ | with_reducible refine rc_gtI ?_ | with_reducible refine rc_geI ?_ | with_reducible refine rb_intI ?_ | with_reducible refine ru_neg ?_ | with_reducible refine rb_tupleT ?_ | ((with_reducible refine rb_isInt ?h ?q); (case h => assumption)) | ((with_reducible refine rb_isBool ?h ?q); (case h => assumption)) | ((with_reducible refine rb_isTup ?h ?q); (case h => assumption)) | with_reducible refine rb_len its_tup ?_ | (refine rx_tup (by rfl) ?_) | ((with_reducible refine' rx_lst ?h ?a ?q); (case h => with_reducible assumption); (case a => rfl)))
local macro_rules | `(tactic| walk_at "ss") => `(tactic| first | with_reducible refine ss_ret (se_fg ?_) | with_reducible refine ss_if ?_ | ((with_reducible refine' ss_expr ?q ?st); (case st => rfl)) | ((with_reducible refine' dx_set ?d _ ?h ?hs ?q); (case d => assumption); (case h => with_reducible assumption); (case hs => rfl)))
local macro_rules | `(tactic| walk_at "s") => `(tactic| first | with_reducible refine sb_one ?_ | with_reducible refine sb_cons ?_ | walk_at "ss")
local macro_rules | `(tactic| walk_at "t") => `(tactic| first | with_reducible refine st_not ?_ | ((with_reducible refine' st_cmp ?q ?st); (case st => first | exact nomark _ | rfl)) | with_reducible refine sw_and1 ?_ | with_reducible refine sw_or1 ?_ | with_reducible refine sw_or ?_ | with_reducible refine sw_and ?_ | ((with_reducible refine' st_chain ?q ?st); (case st => with_unfolding_all rfl)) | (refine st_of ?_; first | with_reducible refine sw_or ?_ | with_reducible refine sw_and ?_) | ((with_reducible refine' st_val ?q ?st); (case st => intro _; rfl)))
local macro_rules | `(tactic| walk_at "go") => `(tactic| repeat (first | walk_at "e" | walk_at "v" | walk_at "s" | walk_at "t"))
local macro_rules | `(tactic| walk_at "gt") => `(tactic| repeat (first | walk_at "e" | walk_at "v" | walk_at "ss" | walk_at "t"))
/-- what odd hands out for a part -/
def OddV (part : S) (lo hi : Int) (v : S) : Prop :=
  v = .non ∨ (∃ b, v = .bl b) ∨ (∃ x, v = .str x) ∨ (∃ q, v = .ptr q) ∨ v = .tup [.tup [], .tup []] ∨
  (∃ xs, part = .tup xs ∧ (v = .int 0 ∨ v = .tup [] ∨ v = .tup xs.dropLast ∨ ∃ z, v = .tup (xs ++ [z]))) ∨
  (∃ i, part = .int i ∧ ((∃ j, v = .int j ∧ (j < lo ∨ hi < j)) ∨ v = .tup [.int i]))
def C_odd : Con := fun ss M Q _ => ∃ (p : Addr) (n : Nat) (part : S) (lo hi : Int), ss = [.ptr p, part, .int lo, .int hi] ∧ Ink M p n ∧ n ≤ 2 ^ 49 ∧ Kn M part ∧ -1000 ≤ lo ∧ lo ≤ 1000 ∧ -1000 ≤ hi ∧ hi ≤ 1000 ∧
  ((∃ xs, part = .tup xs ∧ xs ≠ [] ∧ xs.length ≤ 1000) ∨ ∃ i : Int, part = .int i ∧ -1000 ≤ i ∧ i ≤ 1000) ∧
  ∀ v M', OddV part lo hi v → Kn M' v → Ink M' p (n + 5) → Grow p M M' → Q v M'
theorem Kn.grow {M M' : Mem} {s : S} {p : Addr} (h : Kn M s) (g : Grow p M M') (hp : M' p ≠ none) : Kn M' s := h.up fun q hq => by
  by_cases e : q = p
  · rw [e]; exact hp
  · cases z : M q with
    | none => exact absurd z hq
    | some o => rw [g q o e z]; exact fun z => nomatch z
theorem Ink.ne {M : Mem} {p : Addr} {n : Nat} (h : Ink M p n) : M p ≠ none := by
  obtain ⟨a, b, c, h1, _⟩ := h
  rw [h1]
  exact fun z => nomatch z
theorem Kn.ints {M : Mem} {xs : List S} {s : S} (h : Kn M (.tup xs)) (hs : s ∈ xs) : Kn M s := by
  cases h with
  | tup h => exact h s hs
section
variable {P : Program} {w : World} {K : PySem.W.Frag} {mg : Str → Option Value} {base : Heap}
theorem sc_odd : FnScope ["_law_ink_here", "_law_part", "_law_low", "_law_high", "_law_strange", "_law_way", "_law_odd_here", "_law_far"] ["_law_ink_here", "_law_part", "_law_low", "_law_high"] (defScope s_odd) := ⟨rfl, rfl, rfl, by decide +kernel, rfl, by decide +kernel, by decide +kernel⟩
theorem ok_odd {f : Addr} {fd : FuncData} (F : Fun K "_law_odd" "_law_odd" s_odd f fd) (T : Txt mg) (T3 : mg "list" = none ∧ mg "str" = none) (F_drip : Fn P w K mg base "_law_drip" 1 C_drip) : FnOk P w K mg base (L2.CX P w) 2 f fd ["_law_ink_here", "_law_part", "_law_low", "_law_high"] (SpC K C_odd) := by
  refine def_ok F sc_odd (fun ss M Q E h => ?_) (fun X G eP ew eK em eb d ss M Q E h wi => ?_)
  · obtain ⟨p, n, part, lo, hi, rfl, _⟩ := h; rfl
  subst eP ew eK em eb
  have dn := d.dn
  have n0 : nmB ["_law_ink_here", "_law_part", "_law_low", "_law_high", "_law_strange", "_law_way", "_law_odd_here", "_law_far"] (defScope s_odd) 0 "_law_ink_here" = true := by decide +kernel
  have n1 : nmB ["_law_ink_here", "_law_part", "_law_low", "_law_high", "_law_strange", "_law_way", "_law_odd_here", "_law_far"] (defScope s_odd) 1 "_law_part" = true := by decide +kernel
  have n2 : nmB ["_law_ink_here", "_law_part", "_law_low", "_law_high", "_law_strange", "_law_way", "_law_odd_here", "_law_far"] (defScope s_odd) 2 "_law_low" = true := by decide +kernel
  have n3 : nmB ["_law_ink_here", "_law_part", "_law_low", "_law_high", "_law_strange", "_law_way", "_law_odd_here", "_law_far"] (defScope s_odd) 3 "_law_high" = true := by decide +kernel
  have n4 : nmB ["_law_ink_here", "_law_part", "_law_low", "_law_high", "_law_strange", "_law_way", "_law_odd_here", "_law_far"] (defScope s_odd) 4 "_law_strange" = true := by decide +kernel
  have n5 : nmB ["_law_ink_here", "_law_part", "_law_low", "_law_high", "_law_strange", "_law_way", "_law_odd_here", "_law_far"] (defScope s_odd) 5 "_law_way" = true := by decide +kernel
  have n6 : nmB ["_law_ink_here", "_law_part", "_law_low", "_law_high", "_law_strange", "_law_way", "_law_odd_here", "_law_far"] (defScope s_odd) 6 "_law_odd_here" = true := by decide +kernel
  have n7 : nmB ["_law_ink_here", "_law_part", "_law_low", "_law_high", "_law_strange", "_law_way", "_law_odd_here", "_law_far"] (defScope s_odd) 7 "_law_far" = true := by decide +kernel
  have l4 : lcB ["_law_ink_here", "_law_part", "_law_low", "_law_high", "_law_strange", "_law_way", "_law_odd_here", "_law_far"] (defScope s_odd) 4 "_law_strange" = true := by decide +kernel
  have l5 : lcB ["_law_ink_here", "_law_part", "_law_low", "_law_high", "_law_strange", "_law_way", "_law_odd_here", "_law_far"] (defScope s_odd) 5 "_law_way" = true := by decide +kernel
  have l6 : lcB ["_law_ink_here", "_law_part", "_law_low", "_law_high", "_law_strange", "_law_way", "_law_odd_here", "_law_far"] (defScope s_odd) 6 "_law_odd_here" = true := by decide +kernel
  have l7 : lcB ["_law_ink_here", "_law_part", "_law_low", "_law_high", "_law_strange", "_law_way", "_law_odd_here", "_law_far"] (defScope s_odd) 7 "_law_far" = true := by decide +kernel
  have g1 : glB (defScope s_odd) "_law_drip" = true := by decide +kernel
  have g2 : glB (defScope s_odd) "isinstance" = true := by decide +kernel
  have g3 : glB (defScope s_odd) "tuple" = true := by decide +kernel
  have g4 : glB (defScope s_odd) "list" = true := by decide +kernel
  have g5 : glB (defScope s_odd) "str" = true := by decide +kernel
  obtain ⟨t1, t2, t3, t4, t5, t6⟩ := T
  obtain ⟨t7, t8⟩ := T3
  obtain ⟨p, n, part, lo, hi, rfl, hI, hn, hk, a1, a2, a3, a4, hpart, q⟩ := h
  have e49 : (2 : Nat) ^ 50 = 1125899906842624 := by decide
  have e49' : (2 : Nat) ^ 49 = 562949953421312 := by decide
  conv => pattern (defBody _); whnf
  show SSs X G _ [some (.ptr p), some part, some (.int lo), some (.int hi), none, none, none, none] M _
  -- the strange ones
  walk_at "go"
  refine se_dict0 fun u1 hu1 => ?_
  walk_at "gt"
  refine ⟨by decide, fun u2 hu2 => ?_⟩
  walk_at "gt"
  refine ⟨by decide, ?_⟩
  walk_at "gt"
  refine ⟨by decide, ?_⟩
  walk_at "gt"
  refine ⟨by decide, ?_⟩
  walk_at "gt"
  refine ⟨by simp only [List.length_cons, List.length_nil]; decide, fun u3 hu3 => ?_⟩
  obtain ⟨I1, v1⟩ := hI.new (o := .dK []) hu1
  obtain ⟨I2, v2⟩ := I1.new (o := .lst []) hu2
  obtain ⟨I3, v3⟩ := I2.new (o := .lst [.non, .bl true, .bl false, .str (Str.ofString ""), .str (Str.ofString "1"), .ptr u1, .ptr u2, .tup [.tup [], .tup []]]) hu3
  have s1 : Sub M (updM (updM (updM M u1 (.dK [])) u2 (.lst [])) u3 (.lst [.non, .bl true, .bl false, .str (Str.ofString ""), .str (Str.ofString "1"), .ptr u1, .ptr u2, .tup [.tup [], .tup []]])) := ((Sub.new hu1).trans (Sub.new hu2)).trans (Sub.new hu3)
  have d1 := (Sub.new (o := .lst [.non, .bl true, .bl false, .str (Str.ofString ""), .str (Str.ofString "1"), .ptr u1, .ptr u2, .tup [.tup [], .tup []]]) hu3) _ _ ((Sub.new (o := .lst []) hu2) _ _ (updM_same (M := M) (a := u1) (o := .dK [])))
  have d2 := (Sub.new (o := .lst [.non, .bl true, .bl false, .str (Str.ofString ""), .str (Str.ofString "1"), .ptr u1, .ptr u2, .tup [.tup [], .tup []]]) hu3) _ _ (updM_same (M := updM M u1 (.dK [])) (a := u2) (o := .lst []))
  have d3 := updM_same (M := updM (updM M u1 (.dK [])) u2 (.lst [])) (a := u3) (o := .lst [.non, .bl true, .bl false, .str (Str.ofString ""), .str (Str.ofString "1"), .ptr u1, .ptr u2, .tup [.tup [], .tup []]])
  generalize updM (updM (updM M u1 (.dK [])) u2 (.lst [])) u3 (.lst [.non, .bl true, .bl false, .str (Str.ofString ""), .str (Str.ofString "1"), .ptr u1, .ptr u2, .tup [.tup [], .tup []]]) = M3 at I3 s1 d1 d2 d3 ⊢
  walk_at "gt"
  refine ⟨p, _, _, rfl, I3, by omega, by decide, by decide, fun r1 M4 h1 h1' I4 B4 => ?_⟩
  have G4 : Grow p M M4 := (Grow.refl.sub s1).trans B4.grow
  refine rx_mem ((B4 u3 v3).trans d3) h1 (by simpa using h1') fun st hs => ?_
  have kst : Kn M4 st ∧ OddV part lo hi st := by
    simp only [List.mem_cons, List.not_mem_nil, or_false] at hs
    rcases hs with rfl | rfl | rfl | rfl | rfl | rfl | rfl | rfl
    · exact ⟨.non, .inl rfl⟩
    · exact ⟨.bl _, .inr (.inl ⟨_, rfl⟩)⟩
    · exact ⟨.bl _, .inr (.inl ⟨_, rfl⟩)⟩
    · exact ⟨.str _, .inr (.inr (.inl ⟨_, rfl⟩))⟩
    · exact ⟨.str _, .inr (.inr (.inl ⟨_, rfl⟩))⟩
    · exact ⟨.ptr ((B4 u1 v1).trans d1), .inr (.inr (.inr (.inl ⟨_, rfl⟩)))⟩
    · exact ⟨.ptr ((B4 u2 v2).trans d2), .inr (.inr (.inr (.inl ⟨_, rfl⟩)))⟩
    · refine ⟨.tup fun s hs => ?_, .inr (.inr (.inr (.inr (.inl rfl))))⟩
      simp only [List.mem_cons, List.not_mem_nil, or_false] at hs
      rcases hs with rfl | rfl <;> exact .tup fun s hs => nomatch hs
  obtain ⟨kst, ost⟩ := kst
  show SSs X G _ [some (.ptr p), some part, some (.int lo), some (.int hi), some st, none, none, none] M4 _
  -- _law_way
  walk_at "go"
  refine ⟨p, _, _, rfl, I4, by omega, by decide, by decide, fun r2 M5 h2 h2' I5 B5 => ?_⟩
  have G5 := G4.trans B5.grow
  show SSs X G _ [some (.ptr p), some part, some (.int lo), some (.int hi), some st, some (.int r2), none, none] M5 _
  walk_at "go"
  refine QB.mk ⟨fun c => ?_, fun c => ?_⟩
  · walk_at "go"
    exact ⟨_, Sub.refl, q _ _ ost (kst.grow B5.grow I5.ne) (I5.up (by omega)) G5⟩
  refine sb_nil ?_
  have k5 : Kn M5 part := hk.grow G5 I5.ne
  walk_at "go"
  refine QB.mk ⟨fun c => ?_, fun c => ?_⟩
  · -- a tuple
    obtain ⟨xs, rfl, hne, hxl⟩ : ∃ xs, part = .tup xs ∧ xs ≠ [] ∧ xs.length ≤ 1000 := by
      rcases hpart with z | ⟨i, rfl, _⟩
      · exact z
      · cases c
    obtain ⟨x0, xr, rfl⟩ := List.exists_cons_of_ne_nil hne
    have hxs := small1000 hxl
    have hz : (sizeLine : Nat) = 16777216 := sizeLine_eq
    walk_at "go"
    refine rb_list its_tup fun w1 hw1 => ?_
    walk_at "gt"
    refine se_cutT ?_
    walk_at "gt"
    refine .none ?_
    refine .some ?_
    walk_at "gt"
    refine ⟨_, rfl, ?_⟩
    refine ⟨_, rfl, ?_⟩
    walk_at "gt"
    refine se_cutT ?_
    walk_at "gt"
    refine .none ?_
    refine .some ?_
    walk_at "gt"
    refine ⟨_, rfl, ?_⟩
    refine ⟨_, rfl, ?_⟩
    have eC1 : cutS (x0 :: xr) none (some 1) = [x0] := cut_to (x0 :: xr) 1
    have eCm : cutS (x0 :: xr) none (some (-1)) = (x0 :: xr).dropLast := by
      have e1 : cutS (x0 :: xr) none (some (-1)) = ((x0 :: xr).drop 0).take ((((-1 : Int) + ((x0 :: xr).length : Int)).toNat) - 0) := rfl
      rw [e1, List.drop_zero, List.dropLast_eq_take]
      congr 1
      simp only [List.length_cons]
      omega
    rw [eC1, eCm]
    refine ro_catT (by simp only [List.length_cons, List.length_nil] at *; omega) ?_
    walk_at "gt"
    refine ⟨by decide, ?_⟩
    refine ro_catT (by simp only [List.length_cons, List.length_nil] at *; omega) ?_
    walk_at "gt"
    refine ⟨by decide, ?_⟩
    refine ro_catT (by simp only [List.length_cons, List.length_nil] at *; omega) ?_
    walk_at "gt"
    refine ⟨by simp only [List.length_cons, List.length_nil]; decide, fun w2 hw2 => ?_⟩
    obtain ⟨J1, x1⟩ := I5.new (o := .lst (x0 :: xr)) hw1
    obtain ⟨J2, x2⟩ := J1.new (o := .lst [.ptr w1, .tup (x0 :: xr).dropLast, .tup (x0 :: xr ++ [x0]), .tup (x0 :: xr ++ [.int 0]), .tup (x0 :: xr ++ [.non])]) hw2
    have sJ : Sub M5 (updM (updM M5 w1 (.lst (x0 :: xr))) w2 (.lst [.ptr w1, .tup (x0 :: xr).dropLast, .tup (x0 :: xr ++ [x0]), .tup (x0 :: xr ++ [.int 0]), .tup (x0 :: xr ++ [.non])])) := (Sub.new hw1).trans (Sub.new hw2)
    have f1 := (Sub.new (o := .lst [.ptr w1, .tup (x0 :: xr).dropLast, .tup (x0 :: xr ++ [x0]), .tup (x0 :: xr ++ [.int 0]), .tup (x0 :: xr ++ [.non])]) hw2) _ _ (updM_same (M := M5) (a := w1) (o := .lst (x0 :: xr)))
    have f2 := updM_same (M := updM M5 w1 (.lst (x0 :: xr))) (a := w2) (o := .lst [.ptr w1, .tup (x0 :: xr).dropLast, .tup (x0 :: xr ++ [x0]), .tup (x0 :: xr ++ [.int 0]), .tup (x0 :: xr ++ [.non])])
    generalize updM (updM M5 w1 (.lst (x0 :: xr))) w2 (.lst [.ptr w1, .tup (x0 :: xr).dropLast, .tup (x0 :: xr ++ [x0]), .tup (x0 :: xr ++ [.int 0]), .tup (x0 :: xr ++ [.non])]) = M6 at J2 sJ f1 f2 ⊢
    walk_at "gt"
    refine ⟨p, _, _, rfl, J2, by omega, by decide, by decide, fun r3 M7 h3 h3' I7 B7 => ?_⟩
    have G7 := (G5.sub sJ).trans B7.grow
    have k7 : Kn M7 (.tup (x0 :: xr)) := hk.grow G7 I7.ne
    refine rx_mem ((B7 w2 x2).trans f2) h3 (by simpa using h3') fun od hs => ?_
    have ko : Kn M7 od ∧ OddV (.tup (x0 :: xr)) lo hi od := by
      simp only [List.mem_cons, List.not_mem_nil, or_false] at hs
      rcases hs with rfl | rfl | rfl | rfl | rfl
      · exact ⟨.ptr ((B7 w1 x1).trans f1), .inr (.inr (.inr (.inl ⟨_, rfl⟩)))⟩
      · exact ⟨.tup fun s hs => k7.ints (List.dropLast_subset _ hs), .inr (.inr (.inr (.inr (.inr (.inl ⟨_, rfl, .inr (.inr (.inl rfl))⟩)))))⟩
      · refine ⟨.tup fun s hs => ?_, .inr (.inr (.inr (.inr (.inr (.inl ⟨_, rfl, .inr (.inr (.inr ⟨x0, rfl⟩))⟩)))))⟩
        rcases List.mem_append.mp hs with z | z
        · exact k7.ints z
        · rw [List.mem_singleton.mp z]; exact k7.ints (by simp)
      · refine ⟨.tup fun s hs => ?_, .inr (.inr (.inr (.inr (.inr (.inl ⟨_, rfl, .inr (.inr (.inr ⟨_, rfl⟩))⟩)))))⟩
        rcases List.mem_append.mp hs with z | z
        · exact k7.ints z
        · rw [List.mem_singleton.mp z]; exact .int 0
      · refine ⟨.tup fun s hs => ?_, .inr (.inr (.inr (.inr (.inr (.inl ⟨_, rfl, .inr (.inr (.inr ⟨_, rfl⟩))⟩)))))⟩
        rcases List.mem_append.mp hs with z | z
        · exact k7.ints z
        · rw [List.mem_singleton.mp z]; exact .non
    obtain ⟨ko, oo⟩ := ko
    show SSs X G _ [some (.ptr p), some (.tup (x0 :: xr)), some (.int lo), some (.int hi), some st, some (.int r2), some od, none] M7 _
    walk_at "go"
    refine se_if ?_
    walk_at "gt"
    refine QB.mk ⟨fun c => ?_, fun c => ?_⟩
    · walk_at "gt"
      exact ⟨_, Sub.refl, q _ _ oo ko (I7.up (by omega)) G7⟩
    refine se_if ?_
    walk_at "gt"
    refine QB.mk ⟨fun c => ?_, fun c => ?_⟩
    · walk_at "gt"
      refine ⟨p, _, _, rfl, I7, by omega, by decide, by decide, fun r4 M8 h4 h4' I8 B8 => ?_⟩
      walk_at "gt"
      refine QB.mk ⟨fun c => ?_, fun c => ?_⟩
      · walk_at "gt"
        exact ⟨_, Sub.refl, q _ _ (.inr (.inr (.inr (.inr (.inr (.inl ⟨_, rfl, .inl rfl⟩)))))) (.int 0) (I8.up (by omega)) (G7.trans B8.grow)⟩
      · walk_at "gt"
        exact ⟨by decide, _, Sub.refl, q _ _ (.inr (.inr (.inr (.inr (.inr (.inl ⟨_, rfl, .inr (.inl rfl)⟩)))))) (.tup fun s hs => nomatch hs) (I8.up (by omega)) (G7.trans B8.grow)⟩
    · walk_at "gt"
      refine ⟨(fun z => nomatch z), fun _ => ?_⟩
      walk_at "gt"
      exact ⟨by decide, _, Sub.refl, q _ _ (.inr (.inr (.inr (.inr (.inr (.inl ⟨_, rfl, .inr (.inl rfl)⟩)))))) (.tup fun s hs => nomatch hs) (I7.up (by omega)) G7⟩
  -- an int
  refine sb_nil ?_
  obtain ⟨i, rfl, i0, i1⟩ : ∃ i : Int, part = .int i ∧ -1000 ≤ i ∧ i ≤ 1000 := by
    rcases hpart with ⟨xs, rfl, _⟩ | z
    · cases c
    · exact z
  walk_at "go"
  refine ro_powI (k := 20) (a := 8) (by decide) (by decide) (by decide) ?_
  walk_at "gt"
  refine ⟨p, _, _, rfl, I5, by omega, by decide, by decide, fun r3 M6 h3 h3' I6 B6 => ?_⟩
  have G6 := G5.trans B6.grow
  walk_at "gt"
  show SSs X G _ [some (.ptr p), some (.int i), some (.int lo), some (.int hi), some st, some (.int r2), none, some (.int (1 + r3))] M6 _
  walk_at "go"
  refine ⟨by simp only [List.length_cons, List.length_nil]; decide, fun w1 hw1 => ?_⟩
  walk_at "gt"
  refine ⟨by simp only [List.length_cons, List.length_nil]; decide, ?_⟩
  walk_at "gt"
  refine rb_strI ?_ ?_
  · have z : i.natAbs < 2 ^ 10 := by omega
    have := PySem.Flt.log2_lt_of (by decide) z
    omega
  walk_at "gt"
  refine ⟨by simp only [List.length_cons, List.length_nil]; decide, fun w2 hw2 => ?_⟩
  obtain ⟨J1, x1⟩ := I6.new (o := .lst [.int i]) hw1
  obtain ⟨J2, x2⟩ := J1.new (o := .lst [.int (lo - 1), .int (hi + 1), .int (lo - (1 + r3)), .int (hi + (1 + r3)), .ptr w1, .tup [.int i], .str (toString i)]) hw2
  have sJ : Sub M6 (updM (updM M6 w1 (.lst [.int i])) w2 (.lst [.int (lo - 1), .int (hi + 1), .int (lo - (1 + r3)), .int (hi + (1 + r3)), .ptr w1, .tup [.int i], .str (toString i)])) := (Sub.new hw1).trans (Sub.new hw2)
  have f1 := (Sub.new (o := .lst [.int (lo - 1), .int (hi + 1), .int (lo - (1 + r3)), .int (hi + (1 + r3)), .ptr w1, .tup [.int i], .str (toString i)]) hw2) _ _ (updM_same (M := M6) (a := w1) (o := .lst [.int i]))
  have f2 := updM_same (M := updM M6 w1 (.lst [.int i])) (a := w2) (o := .lst [.int (lo - 1), .int (hi + 1), .int (lo - (1 + r3)), .int (hi + (1 + r3)), .ptr w1, .tup [.int i], .str (toString i)])
  generalize updM (updM M6 w1 (.lst [.int i])) w2 (.lst [.int (lo - 1), .int (hi + 1), .int (lo - (1 + r3)), .int (hi + (1 + r3)), .ptr w1, .tup [.int i], .str (toString i)]) = M7 at J2 sJ f1 f2 ⊢
  walk_at "gt"
  refine ⟨p, _, _, rfl, J2, by omega, by decide, by decide, fun r4 M8 h4 h4' I8 B8 => ?_⟩
  have G8 := (G6.sub sJ).trans B8.grow
  refine rx_mem ((B8 w2 x2).trans f2) h4 (by simpa using h4') fun od hs => ⟨_, Sub.refl, ?_⟩
  have oi : ∀ v, ((∃ j, v = .int j ∧ (j < lo ∨ hi < j)) ∨ v = .tup [.int i]) → OddV (.int i) lo hi v := fun v z => .inr (.inr (.inr (.inr (.inr (.inr ⟨i, rfl, z⟩)))))
  have fin : Kn M8 od → OddV (.int i) lo hi od → Q od M8 := fun a b => q _ _ b a (I8.up (by omega)) G8
  simp only [List.mem_cons, List.not_mem_nil, or_false] at hs
  rcases hs with rfl | rfl | rfl | rfl | rfl | rfl | rfl
  · exact fin (.int _) (oi _ (.inl ⟨_, rfl, .inl (by omega)⟩))
  · exact fin (.int _) (oi _ (.inl ⟨_, rfl, .inr (by omega)⟩))
  · exact fin (.int _) (oi _ (.inl ⟨_, rfl, .inl (by omega)⟩))
  · exact fin (.int _) (oi _ (.inl ⟨_, rfl, .inr (by omega)⟩))
  · exact fin (.ptr ((B8 w1 x1).trans f1)) (.inr (.inr (.inr (.inl ⟨_, rfl⟩))))
  · exact fin (.tup fun s hs => by rw [List.mem_singleton.mp hs]; exact .int i) (oi _ (.inr rfl))
  · exact fin (.str _) (.inr (.inr (.inl ⟨_, rfl⟩)))
end
end Sy

set_option Elab.async false
set_option linter.all false
set_option maxRecDepth 100000
set_option maxHeartbeats 1000000
namespace Sy
open PySem PySem.Spec PyProof.Rows L2
local macro_rules | `(tactic| walk_at "nm") => `(tactic| ((with_reducible refine' dn_name ?d _ ?h ?he ?q); (case d => assumption); (case h => with_reducible assumption); (case he => rfl)))
local macro_rules | `(tactic| walk_at "cn") => `(tactic| first | with_reducible refine se_int ?_ | with_reducible refine se_bl ?_ | with_reducible refine se_non ?_ | with_reducible refine se_str ?_)
local macro_rules | `(tactic| walk_at "ct") => `(tactic| ((with_reducible refine' dn_callT ?d ?m ?v ?g ?n ?db ?st ?pl ?q); (case d => assumption); (case m => with_reducible assumption); (case v => first | with_reducible exact bt_int | with_reducible exact bt_tuple | with_reducible exact bt_list | with_reducible exact bt_str | with_reducible exact bt_bool); (case g => with_reducible assumption); (case n => decide); (case db => decide); (case st => rfl); (case pl => rfl)))
local macro_rules | `(tactic| walk_at "cb") => `(tactic| ((with_reducible refine' dn_callB ?d ?m ?v ?g ?n ?db ?st ?pl ?q); (case d => assumption); (case m => with_reducible assumption); (case v => first | with_reducible exact bf_len | with_reducible exact bf_isinstance | with_reducible exact bf_all | with_reducible exact bf_max | with_reducible exact bf_min | with_reducible exact bf_abs | with_reducible exact bf_sum | with_reducible exact bf_any); (case g => with_reducible assumption); (case n => decide); (case db => decide); (case st => rfl); (case pl => rfl)))
local macro_rules | `(tactic| walk_at "cf") => `(tactic| ((with_reducible refine' dn_call ?d ?F ?g ?k ?db ?st ?pl ?q); (case d => assumption); (case F => with_reducible assumption); (case g => with_reducible assumption); (case k => decide); (case db => decide); (case st => rfl); (case pl => rfl)))
local macro_rules | `(tactic| walk_at "tv") => `(tactic| ((with_reducible refine' dn_ty ?d ?m ?v ?g ?n ?db ?q); (case d => assumption); (case m => with_reducible assumption); (case v => first | with_reducible exact bt_int | with_reducible exact bt_tuple | with_reducible exact bt_list | with_reducible exact bt_str | with_reducible exact bt_bool); (case g => with_reducible assumption); (case n => decide); (case db => decide)))
local macro_rules | `(tactic| walk_at "e") => `(tactic| first | walk_at "nm" | walk_at "cn" | with_reducible refine se_bin ?_ | ((with_reducible refine' se_cmp ?q ?st); (case st => first | exact nomark _ | rfl)) | ((with_reducible refine' se_ix ?q ?st); (case st => exact fun _ _ => rfl)) | with_reducible refine sa_nil ?_ | ((with_reducible refine' sa_cons ?q ?st); (case st => rfl)) | walk_at "cf" | walk_at "cb" | walk_at "ct" | walk_at "tv" | with_reducible refine se_one ?_ | ((with_reducible refine' se_chain ?q ?st); (case st => with_unfolding_all rfl)) | with_reducible refine se_tup ?_ | with_reducible refine se_lst ?_ | with_reducible refine se_and ?_ | with_reducible refine se_or ?_ | with_reducible refine se_not ?_ | with_reducible refine se_un ?_ )
local macro_rules | `(tactic| walk_at "v") => `(tactic| first | with_reducible refine ro_addI ?_ | with_reducible refine ro_subI ?_ | with_reducible refine rc_eqI ?_ | with_reducible refine rc_neI ?_ | with_reducible refine rc_ltI ?_ | with_reducible refine rc_leI ?_ | with_reducible refine rc_gtI ?_ | with_reducible refine rc_geI ?_ | with_reducible refine rb_intI ?_ | with_reducible refine ru_neg ?_ | with_reducible refine rb_tupleT ?_ | ((with_reducible refine rb_isInt ?h ?q); (case h => assumption)) | ((with_reducible refine rb_isBool ?h ?q); (case h => assumption)) | ((with_reducible refine rb_isTup ?h ?q); (case h => assumption)) | with_reducible refine rb_len its_tup ?_ | (refine rx_tup (by rfl) ?_) | ((with_reducible refine' rx_lst ?h ?a ?q); (case h => with_reducible assumption); (case a => rfl)))
local macro_rules | `(tactic| walk_at "ss") => `(tactic| first | with_reducible refine ss_ret (se_fg ?_) | with_reducible refine ss_if ?_ | ((with_reducible refine' ss_expr ?q ?st); (case st => rfl)) | ((with_reducible refine' dx_set ?d _ ?h ?hs ?q); (case d => assumption); (case h => with_reducible assumption); (case hs => rfl)))
local macro_rules | `(tactic| walk_at "s") => `(tactic| first | with_reducible refine sb_one ?_ | with_reducible refine sb_cons ?_ | walk_at "ss")
local macro_rules | `(tactic| walk_at "t") => `(tactic| first | with_reducible refine st_not ?_ | ((with_reducible refine' st_cmp ?q ?st); (case st => first | exact nomark _ | rfl)) | with_reducible refine sw_and1 ?_ | with_reducible refine sw_or1 ?_ | with_reducible refine sw_or ?_ | with_reducible refine sw_and ?_ | ((with_reducible refine' st_chain ?q ?st); (case st => with_unfolding_all rfl)) | (refine st_of ?_; first | with_reducible refine sw_or ?_ | with_reducible refine sw_and ?_) | ((with_reducible refine' st_val ?q ?st); (case st => intro _; rfl)))
local macro_rules | `(tactic| walk_at "go") => `(tactic| repeat (first | walk_at "e" | walk_at "v" | walk_at "s" | walk_at "t"))
local macro_rules | `(tactic| walk_at "gt") => `(tactic| repeat (first | walk_at "e" | walk_at "v" | walk_at "ss" | walk_at "t"))
/-- what wide makes -/
structure WideOk (b : Int) (L : Nat) (sh bl : List S) : Prop where
  ls : sh.length = L
  lb : bl.length = L
  as : sh.all isShade = true
  ab : bl.all (isBlk b L) = true
def C_wide : Con := fun ss M Q _ => ∃ (p : Addr) (n : Nat) (b : Int) (L : Nat), ss = [.ptr p, .int b, .int L] ∧ Ink M p n ∧ n ≤ 2 ^ 49 ∧ 2 ≤ b ∧ b ≤ 4 ∧ 1 ≤ L ∧ L ≤ 64 ∧
  ∀ sh bl M', WideOk b L sh bl → Ink M' p (n + 2000) → Grow p M M' → Q (.tup [.int b, .tup sh, .tup bl]) M'
theorem Grow.put {p q : Addr} {M M' : Mem} {o : MO} (a : Grow p M M') (h : M q = none) : Grow p M (updM M' q o) := fun c u n z => by
  rw [updM_ne (neM z h)]
  exact a c u n z
theorem all_snoc {f : S → Bool} {xs : List S} {x : S} (h : xs.all f = true) (hx : f x = true) : (xs ++ [x]).all f = true := by
  rw [List.all_append, h, List.all_cons, hx]; rfl
theorem Ink.putNe {M : Mem} {p q : Addr} {n : Nat} {o : MO} (h : Ink M p n) (ne : p ≠ q) : Ink (updM M q o) p n := by
  obtain ⟨a, b, c, h1, h2⟩ := h
  exact ⟨a, b, c, (updM_ne ne).trans h1, h2⟩
theorem Mem.new {M : Mem} {q u : Addr} {o o' : MO} (h : M q = some o) (hu : M u = none) : updM M u o' q = some o := (updM_ne (neM h hu)).trans h
theorem Mem.but {M M' : Mem} {p q : Addr} {o : MO} (h : M q = some o) (B : But p M M') (ne : q ≠ p) : M' q = some o := (B q ne).trans h
theorem Grow.none {p q : Addr} {M M' : Mem} (g : Grow p M M') (h : M' q = none) (ne : q ≠ p) : M q = none := by
  cases z : M q with
  | none => rfl
  | some o => rw [g q o ne z] at h; cases h
theorem Ink.neq {M : Mem} {p q : Addr} {n : Nat} (h : Ink M p n) (hq : M q = none) : q ≠ p := fun e => h.ne (by rw [← e]; exact hq)
theorem nm_of {X : Cx} {N : List Str} {sc : Scope} {k : Nat} (d : DN X N sc k) (i : Nat) (x : Str) (h : nmB N sc i x = true) : nmB N sc i x = true := h
theorem glf {X : Cx} {N : List Str} {sc : Scope} {k : Nat} (d : DN X N sc k) (x : Str) (h : glB sc x = true) : glB sc x = true := h
theorem ixN_in {n : Nat} {k : Int} (h0 : 0 ≤ k) (h1 : k < n) : ixN n k = some k.toNat := by
  unfold ixN
  rw [if_pos h0, if_pos h1]
theorem all_set {f : S → Bool} {xs : List S} {x : S} (i : Nat) (h : xs.all f = true) (hx : f x = true) : (xs.set i x).all f = true := by
  rw [List.all_eq_true] at h ⊢
  intro y hy
  rcases List.mem_or_eq_of_mem_set hy with z | rfl
  · exact h y z
  · exact hx
section
variable {P : Program} {w : World} {K : PySem.W.Frag} {mg : Str → Option Value} {base : Heap}
theorem sc_wide : FnScope ["_law_ink_here", "_law_base", "_law_letters", "_law_far", "_law_blocks", "_law_letter", "_law_rows", "_law_i", "_law_goals", "_law_j"] ["_law_ink_here", "_law_base", "_law_letters"] (defScope s_wide) := ⟨rfl, rfl, rfl, by decide +kernel, rfl, by decide +kernel, by decide +kernel⟩
theorem ok_wide {f : Addr} {fd : FuncData} (F : Fun K "_law_wide" "_law_wide" s_wide f fd) (T : Txt mg) (T4 : mg "range" = none) (F_drip : Fn P w K mg base "_law_drip" 1 C_drip) : FnOk P w K mg base (L2.CX P w) 2 f fd ["_law_ink_here", "_law_base", "_law_letters"] (SpC K C_wide) := by
  refine def_ok F sc_wide (fun ss M Q E h => ?_) (fun X G eP ew eK em eb d ss M Q E h wi => ?_)
  · obtain ⟨p, n, b, L, rfl, _⟩ := h; rfl
  subst eP ew eK em eb
  have dn := d.dn
  have n0 : nmB ["_law_ink_here", "_law_base", "_law_letters", "_law_far", "_law_blocks", "_law_letter", "_law_rows", "_law_i", "_law_goals", "_law_j"] (defScope s_wide) 0 "_law_ink_here" = true := by decide +kernel
  have n1 : nmB ["_law_ink_here", "_law_base", "_law_letters", "_law_far", "_law_blocks", "_law_letter", "_law_rows", "_law_i", "_law_goals", "_law_j"] (defScope s_wide) 1 "_law_base" = true := by decide +kernel
  have n2 : nmB ["_law_ink_here", "_law_base", "_law_letters", "_law_far", "_law_blocks", "_law_letter", "_law_rows", "_law_i", "_law_goals", "_law_j"] (defScope s_wide) 2 "_law_letters" = true := by decide +kernel
  have n3 : nmB ["_law_ink_here", "_law_base", "_law_letters", "_law_far", "_law_blocks", "_law_letter", "_law_rows", "_law_i", "_law_goals", "_law_j"] (defScope s_wide) 3 "_law_far" = true := by decide +kernel
  have n4 : nmB ["_law_ink_here", "_law_base", "_law_letters", "_law_far", "_law_blocks", "_law_letter", "_law_rows", "_law_i", "_law_goals", "_law_j"] (defScope s_wide) 4 "_law_blocks" = true := by decide +kernel
  have n5 : nmB ["_law_ink_here", "_law_base", "_law_letters", "_law_far", "_law_blocks", "_law_letter", "_law_rows", "_law_i", "_law_goals", "_law_j"] (defScope s_wide) 5 "_law_letter" = true := by decide +kernel
  have n6 : nmB ["_law_ink_here", "_law_base", "_law_letters", "_law_far", "_law_blocks", "_law_letter", "_law_rows", "_law_i", "_law_goals", "_law_j"] (defScope s_wide) 6 "_law_rows" = true := by decide +kernel
  have n7 : nmB ["_law_ink_here", "_law_base", "_law_letters", "_law_far", "_law_blocks", "_law_letter", "_law_rows", "_law_i", "_law_goals", "_law_j"] (defScope s_wide) 7 "_law_i" = true := by decide +kernel
  have n8 : nmB ["_law_ink_here", "_law_base", "_law_letters", "_law_far", "_law_blocks", "_law_letter", "_law_rows", "_law_i", "_law_goals", "_law_j"] (defScope s_wide) 8 "_law_goals" = true := by decide +kernel
  have l3 : lcB ["_law_ink_here", "_law_base", "_law_letters", "_law_far", "_law_blocks", "_law_letter", "_law_rows", "_law_i", "_law_goals", "_law_j"] (defScope s_wide) 3 "_law_far" = true := by decide +kernel
  have l4 : lcB ["_law_ink_here", "_law_base", "_law_letters", "_law_far", "_law_blocks", "_law_letter", "_law_rows", "_law_i", "_law_goals", "_law_j"] (defScope s_wide) 4 "_law_blocks" = true := by decide +kernel
  have l5 : lcB ["_law_ink_here", "_law_base", "_law_letters", "_law_far", "_law_blocks", "_law_letter", "_law_rows", "_law_i", "_law_goals", "_law_j"] (defScope s_wide) 5 "_law_letter" = true := by decide +kernel
  have l6 : lcB ["_law_ink_here", "_law_base", "_law_letters", "_law_far", "_law_blocks", "_law_letter", "_law_rows", "_law_i", "_law_goals", "_law_j"] (defScope s_wide) 6 "_law_rows" = true := by decide +kernel
  have l7 : lcB ["_law_ink_here", "_law_base", "_law_letters", "_law_far", "_law_blocks", "_law_letter", "_law_rows", "_law_i", "_law_goals", "_law_j"] (defScope s_wide) 7 "_law_i" = true := by decide +kernel
  have l8 : lcB ["_law_ink_here", "_law_base", "_law_letters", "_law_far", "_law_blocks", "_law_letter", "_law_rows", "_law_i", "_law_goals", "_law_j"] (defScope s_wide) 8 "_law_goals" = true := by decide +kernel
  have g1 : glB (defScope s_wide) "_law_drip" = true := by decide +kernel
  have g2 : glB (defScope s_wide) "range" = true := by decide +kernel
  have g3 : glB (defScope s_wide) "tuple" = true := by decide +kernel
  obtain ⟨t1, t2, t3, t4, t5, t6⟩ := T
  obtain ⟨p, n, b, L, rfl, hI, hn, b0, b1, L0, L1, q⟩ := h
  have e49 : (2 : Nat) ^ 50 = 1125899906842624 := by decide
  have e49' : (2 : Nat) ^ 49 = 562949953421312 := by decide
  have hz : (sizeLine : Nat) = 16777216 := sizeLine_eq
  conv => pattern (defBody _); whnf
  show SSs X G _ [some (.ptr p), some (.int b), some (.int L), none, none, none, none, none, none, none] M _
  walk_at "go"
  refine ⟨p, _, _, rfl, hI, by omega, by omega, by omega, fun r1 M1 h1 h1' I1 B1 => ?_⟩
  show SSs X G _ [some (.ptr p), some (.int b), some (.int L), some (.int r1), none, none, none, none, none, none] M1 _
  walk_at "go"
  refine ⟨by decide, fun pb hpb => ?_⟩
  have ob : M pb = none := by
    cases z : M pb with
    | none => rfl
    | some o =>
      by_cases e : pb = p
      · rw [e] at hpb; exact absurd hpb I1.ne
      · rw [B1 pb e, z] at hpb; cases hpb
  have neb : p ≠ pb := fun e => I1.ne (by rw [e]; exact hpb)
  show SSs X G _ [some (.ptr p), some (.int b), some (.int L), some (.int r1), some (.ptr pb), none, none, none, none, none] (updM M1 pb (.lst [])) _
  refine sb_cons ?_
  refine dx_for d (fun _ => rfl) ?_
  refine si_range1 (gl_of dn g2) T4 ?_
  walk_at "go"
  refine ⟨_, rfl, by omega, by omega, ?_⟩
  refine ⟨fun i v' M' => ∃ (x5 x6 x7 x8 : Option S) (bl : List S), v' = [some (.ptr p), some (.int b), some (.int L), some (.int r1), some (.ptr pb), x5, x6, x7, x8, none] ∧ M' pb = some (.lst bl) ∧ bl.length = i ∧ i ≤ L ∧ bl.all (isBlk b L) = true ∧ Ink M' p (n + 1 + 24 * i) ∧ Grow p M M', ⟨none, none, none, none, [], rfl, updM_same, rfl, by omega, rfl, I1.putNe neb, B1.grow.put ob⟩, fun _ _ _ _ => True.intro, ?_, ?_⟩
  · rintro i s v' M2 es ⟨x5, x6, x7, x8, bl, rfl, hbl, hli, hiL, hall, I2, G2⟩
    obtain ⟨hi, rfl⟩ := rgS_get es
    refine dx_tgt d 5 l5 ?_
    show SSs X G _ [some (.ptr p), some (.int b), some (.int L), some (.int r1), some (.ptr pb), some (.int (0 + i)), x6, x7, x8, none] M2 _
    walk_at "go"
    refine ⟨by decide, fun pr hpr => ?_⟩
    have nr : pr ≠ p := I2.neq hpr
    have nbr : pb ≠ pr := neM hbl hpr
    have or' : M pr = none := G2.none hpr nr
    show SSs X G _ [some (.ptr p), some (.int b), some (.int L), some (.int r1), some (.ptr pb), some (.int (0 + i)), some (.ptr pr), x7, x8, none] (updM M2 pr (.lst [])) _
    refine sb_cons ?_
    refine dx_for d (fun _ => rfl) ?_
    refine si_range1 (gl_of dn g2) T4 ?_
    walk_at "go"
    refine ⟨_, rfl, by omega, by omega, ?_⟩
    refine ⟨fun k v' M' => ∃ (x7 x8 : Option S) (rw' : List S), v' = [some (.ptr p), some (.int b), some (.int L), some (.int r1), some (.ptr pb), some (.int (0 + i)), some (.ptr pr), x7, x8, none] ∧ M' pb = some (.lst bl) ∧ M' pr = some (.lst rw') ∧ rw'.length = k ∧ (k : Int) ≤ b ∧ rw'.all (isRow b L) = true ∧ Ink M' p (n + 1 + 24 * i + 6 * k) ∧ Grow p M M', ⟨x7, x8, [], rfl, Mem.new hbl hpr, updM_same, rfl, by omega, rfl, I2.putNe nr.symm, G2.put or'⟩, fun _ _ _ _ => True.intro, ?_, ?_⟩
    · rintro k s2 v' M3 es2 ⟨x7, x8, rw', rfl, hb3, hr3, hlr, hkb, hra, I3, G3⟩
      obtain ⟨hk, rfl⟩ := rgS_get es2
      refine dx_tgt d 7 l7 ?_
      show SSs X G _ [some (.ptr p), some (.int b), some (.int L), some (.int r1), some (.ptr pb), some (.int (0 + i)), some (.ptr pr), some (.int (0 + k)), x8, none] M3 _
      refine sb_cons ?_
      refine dx_setLc d 8 9 (by decide +kernel) (by decide +kernel) (fun _ => rfl) rfl (by decide +kernel) rfl ?_
      refine si_range1 (gl_of dn g2) T4 ?_
      walk_at "go"
      refine ⟨_, rfl, by omega, by omega, ?_⟩
      refine fun D hD => ⟨fun j acc M' => M' pb = some (.lst bl) ∧ M' pr = some (.lst rw') ∧ acc.length = j ∧ (j : Int) ≤ b ∧ acc.all (isLet L) = true ∧ Ink M' p (n + 1 + 24 * i + 6 * k + j) ∧ Grow p M M', ⟨Mem.new hb3 hD, Mem.new hr3 hD, rfl, by omega, rfl, I3.putNe (I3.neq hD).symm, G3.put (G3.none hD (I3.neq hD))⟩, fun _ _ _ _ _ => True.intro, ?_, ?_⟩
      · rintro j s3 acc M4 es3 hD4 ⟨hb4, hr4, hla, hjb, haa, I4, G4⟩ s0 H0 C0 cl0 fp0 dn1
        obtain ⟨hj, rfl⟩ := rgS_get es3
        have m0 := nm_of dn1 0 "_law_ink_here" (by decide +kernel)
        have m2 := nm_of dn1 2 "_law_letters" (by decide +kernel)
        have m3 := nm_of dn1 3 "_law_far" (by decide +kernel)
        have m5 := nm_of dn1 5 "_law_letter" (by decide +kernel)
        have k1 := glf dn1 "_law_drip" (by decide +kernel)
        show SE _ G _ [some (.ptr p), some (.int b), some (.int L), some (.int r1), some (.ptr pb), some (.int (0 + i)), some (.ptr pr), some (.int (0 + k)), x8, some (.int (0 + j))] M4 _
        walk_at "gt"
        refine ⟨by simp only [List.length_cons, List.length_nil]; decide, fun u hu => ?_⟩
        obtain ⟨J4, nu⟩ := I4.new (o := .lst [.int r1, .int (0 + i), .int (L - 1)]) hu
        walk_at "gt"
        refine ⟨p, _, _, rfl, J4, by omega, by decide, by decide, fun r2 M5 h2 h2' I5 B5 => ?_⟩
        refine rx_mem (Mem.but updM_same B5 nu) h2 (by simpa using h2') fun st hs => ?_
        have nD : D ≠ p := I3.neq hD
        have oD : M D = none := G3.none hD nD
        have hst : isLet L st = true := by
          simp only [List.mem_cons, List.not_mem_nil, or_false] at hs
          rcases hs with rfl | rfl | rfl
          · show (decide (0 ≤ r1) && decide (r1 < (L : Int))) = true
            simp only [Bool.and_eq_true, decide_eq_true_eq]; omega
          · show (decide (0 ≤ (0 + i : Int)) && decide ((0 + i : Int) < (L : Int))) = true
            simp only [Bool.and_eq_true, decide_eq_true_eq]; omega
          · show (decide (0 ≤ (L : Int) - 1) && decide ((L : Int) - 1 < (L : Int))) = true
            simp only [Bool.and_eq_true, decide_eq_true_eq]; omega
        have npb : pb ≠ p := neb.symm
        refine ⟨Mem.but (Mem.new hD4 hu) B5 nD, by omega, ?_⟩
        refine ⟨?_, ?_, by rw [List.length_append, hla]; rfl, by omega, all_snoc haa hst, I5.putNe nD.symm, ?_⟩
        · exact (updM_ne (neM hb3 hD)).trans (Mem.but (Mem.new hb4 hu) B5 npb)
        · exact (updM_ne (neM hr3 hD)).trans (Mem.but (Mem.new hr4 hu) B5 nr)
        · exact ((G4.sub (Sub.new hu)).trans B5.grow).put oD
      rintro acc M4 hD4 ⟨hb4, hr4, hla, hjb, haa, I4, G4⟩
      rw [rgS_len] at hla I4
      have nD : D ≠ p := I3.neq hD
      have oD : M D = none := G3.none hD nD
      have npb : pb ≠ p := neb.symm
      show SSs X G _ [some (.ptr p), some (.int b), some (.int L), some (.int r1), some (.ptr pb), some (.int (0 + i)), some (.ptr pr), some (.int (0 + k)), some (.ptr D), none] M4 _
      refine sb_cons ?_
      refine ss_asg ?_
      walk_at "gt"
      refine ⟨p, _, _, rfl, I4, by omega, by omega, by omega, fun r3 M5 h3 h3' I5 B5 => ?_⟩
      refine sg_item ?_
      walk_at "gt"
      refine ⟨p, _, _, rfl, I5, by omega, by omega, by omega, fun r4 M6 h4 h4' I6 B6 => ?_⟩
      have hD6 : M6 D = some (.lst acc) := Mem.but (Mem.but hD4 B5 nD) B6 nD
      have hb6 : M6 pb = some (.lst bl) := Mem.but (Mem.but hb4 B5 npb) B6 npb
      have hr6 : M6 pr = some (.lst rw') := Mem.but (Mem.but hr4 B5 nr) B6 nr
      refine ⟨D, acc, r4, r4.toNat, rfl, rfl, hD6, ixN_in h4 (by omega), ?_⟩
      show SSs X G _ [some (.ptr p), some (.int b), some (.int L), some (.int r1), some (.ptr pb), some (.int (0 + i)), some (.ptr pr), some (.int (0 + k)), some (.ptr D), none] _ _
      have hset : (acc.set r4.toNat (.int r3)).all (isLet L) = true := all_set _ haa (by
        show (decide (0 ≤ r3) && decide (r3 < (L : Int))) = true
        simp only [Bool.and_eq_true, decide_eq_true_eq]; omega)
      have hrow : isRow b L (.tup (acc.set r4.toNat (.int r3))) = true := by
        show (decide (((acc.set r4.toNat (.int r3)).length : Int) = b) && (acc.set r4.toNat (.int r3)).all (isLet L)) = true
        rw [hset, List.length_set, hla]
        simp only [Bool.and_true, decide_eq_true_eq]; omega
      refine sb_one ?_
      refine ss_expr ?_ rfl
      refine se_append ?_
      walk_at "gt"
      refine ⟨pr, rfl, ⟨_, (updM_ne (neM hr3 hD)).trans hr6⟩, ?_⟩
      walk_at "gt"
      refine rb_tupleL updM_same ?_
      refine ⟨_, (updM_ne (neM hr3 hD)).trans hr6, by omega, ?_⟩
      refine ⟨_, _, _, rfl, ?_, updM_same, by rw [List.length_append, hlr]; rfl, by omega, all_snoc hra hrow, ((I6.putNe nD.symm).putNe nr.symm).up (by omega), ((G4.trans B5.grow).trans B6.grow |>.put oD).put or'⟩
      exact (updM_ne nbr).trans ((updM_ne (neM hb3 hD)).trans hb6)
    · rintro v' M3 ⟨x7, x8, rw', rfl, hb3, hr3, hlr, hkb, hra, I3, G3⟩
      rw [rgS_len] at hlr I3 hkb
      have hblk : isBlk b L (.tup rw') = true := by
        show (decide ((rw'.length : Int) = b) && rw'.all (isRow b L)) = true
        rw [hra, hlr]
        simp only [Bool.and_true, decide_eq_true_eq]; omega
      refine sb_one ?_
      refine ss_expr ?_ rfl
      refine se_append ?_
      walk_at "gt"
      refine ⟨pb, rfl, ⟨_, hb3⟩, ?_⟩
      walk_at "gt"
      refine rb_tupleL hr3 ?_
      refine ⟨_, hb3, by omega, ?_⟩
      exact ⟨_, _, _, _, _, rfl, updM_same, by rw [List.length_append, hli]; rfl, by omega, all_snoc hall hblk, (I3.putNe neb).up (by omega), G3.put ob⟩
  · rintro v' M2 ⟨x5, x6, x7, x8, bl, rfl, hbl, hli, hiL, hall, I2, G2⟩
    rw [rgS_len] at hli I2
    have hli : bl.length = L := by omega
    walk_at "go"
    refine dx_lc dn d.nd 5 (by decide +kernel) (fun _ => rfl) ?_
    refine si_range1 (gl_of dn g2) T4 ?_
    walk_at "go"
    refine ⟨_, rfl, by omega, by omega, ?_⟩
    refine fun D hD => ⟨fun j acc M' => M' pb = some (.lst bl) ∧ acc.length = j ∧ j ≤ L ∧ acc.all isShade = true ∧ Ink M' p (n + 1 + 24 * L + j) ∧ Grow p M M', ⟨Mem.new hbl hD, rfl, by omega, rfl, (I2.putNe (I2.neq hD).symm).up (by omega), G2.put (G2.none hD (I2.neq hD))⟩, fun _ _ _ _ _ => True.intro, ?_, ?_⟩
    · rintro j s3 acc M4 es3 hD4 ⟨hb4, hla, hjb, haa, I4, G4⟩ s0 H0 C0 cl0 fp0 dn1
      obtain ⟨hj, rfl⟩ := rgS_get es3
      have m0 := nm_of dn1 0 "_law_ink_here" (by decide +kernel)
      have k1 := glf dn1 "_law_drip" (by decide +kernel)
      show SE _ G _ [some (.ptr p), some (.int b), some (.int L), some (.int r1), some (.ptr pb), some (.int (0 + j)), x6, x7, x8, none] M4 _
      walk_at "gt"
      refine ⟨p, _, _, rfl, I4, by omega, by decide, by decide, fun r2 M5 h2 h2' I5 B5 => ?_⟩
      have nD : D ≠ p := I2.neq hD
      refine ⟨Mem.but hD4 B5 nD, by omega, ?_⟩
      refine ⟨?_, by rw [List.length_append, hla]; rfl, by omega, all_snoc haa ?_, I5.putNe nD.symm, ?_⟩
      · exact (updM_ne (neM hbl hD)).trans (Mem.but hb4 B5 neb.symm)
      · show (decide (0 ≤ r2) && decide (r2 ≤ 3)) = true
        simp only [Bool.and_eq_true, decide_eq_true_eq]; omega
      · exact (G4.trans B5.grow).put (G2.none hD nD)
    rintro acc M4 hD4 ⟨hb4, hla, hjb, haa, I4, G4⟩
    rw [rgS_len] at hla I4
    walk_at "gt"
    refine rb_tupleL hD4 ?_
    walk_at "gt"
    refine rb_tupleL hb4 ?_
    walk_at "gt"
    refine ⟨by simp only [List.length_cons, List.length_nil]; decide, _, Sub.refl, q _ _ _ ⟨by omega, hli, haa, hall⟩ (I4.up (by omega)) G4⟩
end
end Sy

set_option Elab.async false
set_option linter.all false
set_option maxRecDepth 100000
set_option maxHeartbeats 1000000
namespace Sy
open PySem PySem.Spec PyProof.Rows L2
local macro_rules | `(tactic| walk_at "nm") => `(tactic| ((with_reducible refine' dn_name ?d _ ?h ?he ?q); (case d => assumption); (case h => with_reducible assumption); (case he => rfl)))
local macro_rules | `(tactic| walk_at "cn") => `(tactic| first | with_reducible refine se_int ?_ | with_reducible refine se_bl ?_ | with_reducible refine se_non ?_ | with_reducible refine se_str ?_)
local macro_rules | `(tactic| walk_at "ct") => `(tactic| ((with_reducible refine' dn_callT ?d ?m ?v ?g ?n ?db ?st ?pl ?q); (case d => assumption); (case m => with_reducible assumption); (case v => first | with_reducible exact bt_int | with_reducible exact bt_tuple | with_reducible exact bt_list | with_reducible exact bt_str | with_reducible exact bt_bool); (case g => with_reducible assumption); (case n => decide); (case db => decide); (case st => rfl); (case pl => rfl)))
local macro_rules | `(tactic| walk_at "cb") => `(tactic| ((with_reducible refine' dn_callB ?d ?m ?v ?g ?n ?db ?st ?pl ?q); (case d => assumption); (case m => with_reducible assumption); (case v => first | with_reducible exact bf_len | with_reducible exact bf_isinstance | with_reducible exact bf_all | with_reducible exact bf_max | with_reducible exact bf_min | with_reducible exact bf_abs | with_reducible exact bf_sum | with_reducible exact bf_any); (case g => with_reducible assumption); (case n => decide); (case db => decide); (case st => rfl); (case pl => rfl)))
local macro_rules | `(tactic| walk_at "cf") => `(tactic| ((with_reducible refine' dn_call ?d ?F ?g ?k ?db ?st ?pl ?q); (case d => assumption); (case F => with_reducible assumption); (case g => with_reducible assumption); (case k => decide); (case db => decide); (case st => rfl); (case pl => rfl)))
local macro_rules | `(tactic| walk_at "tv") => `(tactic| ((with_reducible refine' dn_ty ?d ?m ?v ?g ?n ?db ?q); (case d => assumption); (case m => with_reducible assumption); (case v => first | with_reducible exact bt_int | with_reducible exact bt_tuple | with_reducible exact bt_list | with_reducible exact bt_str | with_reducible exact bt_bool); (case g => with_reducible assumption); (case n => decide); (case db => decide)))
local macro_rules | `(tactic| walk_at "e") => `(tactic| first | walk_at "nm" | walk_at "cn" | with_reducible refine se_bin ?_ | ((with_reducible refine' se_cmp ?q ?st); (case st => first | exact nomark _ | rfl)) | ((with_reducible refine' se_ix ?q ?st); (case st => exact fun _ _ => rfl)) | with_reducible refine sa_nil ?_ | ((with_reducible refine' sa_cons ?q ?st); (case st => rfl)) | walk_at "cf" | walk_at "cb" | walk_at "ct" | walk_at "tv" | with_reducible refine se_one ?_ | ((with_reducible refine' se_chain ?q ?st); (case st => with_unfolding_all rfl)) | with_reducible refine se_tup ?_ | with_reducible refine se_lst ?_ | with_reducible refine se_and ?_ | with_reducible refine se_or ?_ | with_reducible refine se_not ?_ | with_reducible refine se_un ?_ )
local macro_rules | `(tactic| walk_at "v") => `(tactic| first | with_reducible refine ro_addI ?_ | with_reducible refine ro_subI ?_ | with_reducible refine rc_eqI ?_ | with_reducible refine rc_neI ?_ | with_reducible refine rc_ltI ?_ | with_reducible refine rc_leI ?_ | with_reducible refine rc_gtI ?_ | with_reducible refine rc_geI ?_ | with_reducible refine rb_intI ?_ | with_reducible refine ru_neg ?_ | with_reducible refine rb_tupleT ?_ | ((with_reducible refine rb_isInt ?h ?q); (case h => assumption)) | ((with_reducible refine rb_isBool ?h ?q); (case h => assumption)) | ((with_reducible refine rb_isTup ?h ?q); (case h => assumption)) | with_reducible refine rb_len its_tup ?_ | (refine rx_tup (by rfl) ?_) | ((with_reducible refine' rx_lst ?h ?a ?q); (case h => with_reducible assumption); (case a => rfl)))
local macro_rules | `(tactic| walk_at "ss") => `(tactic| first | with_reducible refine ss_ret (se_fg ?_) | with_reducible refine ss_if ?_ | ((with_reducible refine' ss_expr ?q ?st); (case st => rfl)) | ((with_reducible refine' dx_set ?d _ ?h ?hs ?q); (case d => assumption); (case h => with_reducible assumption); (case hs => rfl)))
local macro_rules | `(tactic| walk_at "s") => `(tactic| first | with_reducible refine sb_one ?_ | with_reducible refine sb_cons ?_ | walk_at "ss")
local macro_rules | `(tactic| walk_at "t") => `(tactic| first | with_reducible refine st_not ?_ | ((with_reducible refine' st_cmp ?q ?st); (case st => first | exact nomark _ | rfl)) | with_reducible refine sw_and1 ?_ | with_reducible refine sw_or1 ?_ | with_reducible refine sw_or ?_ | with_reducible refine sw_and ?_ | ((with_reducible refine' st_chain ?q ?st); (case st => with_unfolding_all rfl)) | (refine st_of ?_; first | with_reducible refine sw_or ?_ | with_reducible refine sw_and ?_) | ((with_reducible refine' st_val ?q ?st); (case st => intro _; rfl)))
local macro_rules | `(tactic| walk_at "go") => `(tactic| repeat (first | walk_at "e" | walk_at "v" | walk_at "s" | walk_at "t"))
local macro_rules | `(tactic| walk_at "gt") => `(tactic| repeat (first | walk_at "e" | walk_at "v" | walk_at "ss" | walk_at "t"))
theorem atI_mem {xs : List S} {k : Int} {x : S} (h : atI xs k = some x) : x ∈ xs := by
  unfold atI at h
  obtain ⟨j, _, hj⟩ := Option.bind_eq_some_iff.mp h
  exact List.mem_of_getElem? hj
theorem at1 {xs : List S} {k : Nat} {r : List Int} {x : S} (h : xs[k]? = some x) : atS (.tup xs) ((k : Int) :: r) = atS x r := by
  show (atI xs (k : Int)).bind (fun x => atS x r) = atS x r
  rw [atI_nat h]; rfl
theorem put1 {xs : List S} {k : Nat} {r : List Int} {x y v : S} (h : xs[k]? = some x) (hy : putS x r v = some y) : putS (.tup xs) ((k : Int) :: r) v = some (.tup (xs.take k ++ y :: xs.drop (k + 1))) := by
  show (if (0 : Int) ≤ (k : Int) then (xs[(k : Int).toNat]?).bind fun x => (putS x r v).map fun y => S.tup (xs.take (k : Int).toNat ++ y :: xs.drop ((k : Int).toNat + 1)) else none) = _
  rw [if_pos (by omega), Int.toNat_natCast, h]
  show (putS x r v).map _ = _
  rw [hy]; rfl
theorem Kn.at {M : Mem} : ∀ {ns : List Int} {t z : S}, Kn M t → atS t ns = some z → Kn M z
  | [], t, z, h, e => by
    have e' : some t = some z := by cases t <;> exact e
    rw [← Option.some.inj e']; exact h
  | k :: r, .tup xs, z, h, e => by
    have e' : (atI xs k).bind (fun x => atS x r) = some z := e
    obtain ⟨x, ex, hx⟩ := Option.bind_eq_some_iff.mp e'
    exact Kn.at (h.ints (atI_mem ex)) hx
  | k :: r, .int _, z, h, e => nomatch e
  | k :: r, .non, z, h, e => nomatch e
  | k :: r, .bl _, z, h, e => nomatch e
  | k :: r, .str _, z, h, e => nomatch e
  | k :: r, .ptr _, z, h, e => nomatch e
  | k :: r, .ty _, z, h, e => nomatch e
  | k :: r, .rdl _, z, h, e => nomatch e
theorem Kn.puts {M : Mem} {v : S} (hv : Kn M v) : ∀ {ns : List Int} {t z : S}, Kn M t → putS t ns v = some z → Kn M z
  | [], t, z, h, e => by
    have e' : some v = some z := by cases t <;> exact e
    rw [← Option.some.inj e']; exact hv
  | k :: r, .tup xs, z, h, e => by
    obtain ⟨k0, x, y, ex, ey, rfl⟩ := putS_cons e
    have hx : x ∈ xs := List.mem_of_getElem? ex
    refine .tup fun s hs => ?_
    rcases List.mem_append.mp hs with q | q
    · exact h.ints (List.mem_of_mem_take q)
    · rcases List.mem_cons.mp q with rfl | q
      · exact Kn.puts hv (h.ints hx) ey
      · exact h.ints (List.mem_of_mem_drop q)
  | k :: r, .int _, z, h, e => nomatch e
  | k :: r, .non, z, h, e => nomatch e
  | k :: r, .bl _, z, h, e => nomatch e
  | k :: r, .str _, z, h, e => nomatch e
  | k :: r, .ptr _, z, h, e => nomatch e
  | k :: r, .ty _, z, h, e => nomatch e
  | k :: r, .rdl _, z, h, e => nomatch e
theorem all_put {f : S → Bool} {xs : List S} {v : S} (k : Nat) (h : f v = false) : (xs.take k ++ v :: xs.drop (k + 1)).all f = false := by
  rw [List.all_append, List.all_cons, h]; simp
theorem len_put {xs : List S} {k : Nat} (v : S) (h : k < xs.length) : (xs.take k ++ v :: xs.drop (k + 1)).length = xs.length := by
  rw [List.length_append, List.length_cons, List.length_take, List.length_drop]; omega
theorem odd_int {i lo hi : Int} {v : S} (h : OddV (.int i) lo hi v) : (∃ j, v = .int j ∧ (j < lo ∨ hi < j)) ∨ ∀ j, v ≠ .int j := by
  rcases h with rfl | ⟨_, rfl⟩ | ⟨_, rfl⟩ | ⟨_, rfl⟩ | rfl | ⟨xs, e, _⟩ | ⟨j, e, z | rfl⟩
  · exact .inr fun j e => nomatch e
  · exact .inr fun j e => nomatch e
  · exact .inr fun j e => nomatch e
  · exact .inr fun j e => nomatch e
  · exact .inr fun j e => nomatch e
  · cases e
  · exact .inl z
  · exact .inr fun j e => nomatch e
theorem odd_shade {i : Int} {v : S} (h : OddV (.int i) 0 3 v) : isShade v = false := by
  rcases odd_int h with ⟨j, rfl, z⟩ | z
  · show (decide (0 ≤ j) && decide (j ≤ 3)) = false
    rw [Bool.and_eq_false_iff, decide_eq_false_iff_not, decide_eq_false_iff_not]; omega
  · cases v with
    | int j => exact absurd rfl (z j)
    | _ => rfl
theorem odd_let {i L : Int} {v : S} (h : OddV (.int i) 0 (L - 1) v) : isLet L v = false := by
  rcases odd_int h with ⟨j, rfl, z⟩ | z
  · show (decide (0 ≤ j) && decide (j < L)) = false
    rw [Bool.and_eq_false_iff, decide_eq_false_iff_not, decide_eq_false_iff_not]; omega
  · cases v with
    | int j => exact absurd rfl (z j)
    | _ => rfl
theorem base_no {j : Int} (h : j < 2 ∨ 4 < j) : isBase (.int j) = false := by
  show ([2, 3, 4] : List Int).contains j = false
  rw [List.contains_eq_mem, decide_eq_false_iff_not]
  intro m
  simp only [List.mem_cons, List.not_mem_nil, or_false] at m
  omega
theorem odd_base {i : Int} {v : S} (h : OddV (.int i) 2 4 v) : isBase v = false := by
  rcases odd_int h with ⟨j, rfl, z⟩ | z
  · exact base_no z
  · cases v with
    | int j => exact absurd rfl (z j)
    | _ => rfl
theorem odd_tup {xs : List S} {lo hi : Int} {v : S} (ne : xs ≠ []) (h : OddV (.tup xs) lo hi v) : (∀ ys, v ≠ .tup ys) ∨ v = .tup [.tup [], .tup []] ∨ ∃ ys, v = .tup ys ∧ ys.length ≠ xs.length ∧ (ys = [] ∨ ys = xs.dropLast ∨ ∃ z, ys = xs ++ [z]) := by
  have l0 : 0 < xs.length := List.length_pos_iff.mpr ne
  rcases h with rfl | ⟨_, rfl⟩ | ⟨_, rfl⟩ | ⟨_, rfl⟩ | rfl | ⟨ys, e, rfl | rfl | rfl | ⟨z, rfl⟩⟩ | ⟨j, e, _⟩
  · exact .inl fun j e => nomatch e
  · exact .inl fun j e => nomatch e
  · exact .inl fun j e => nomatch e
  · exact .inl fun j e => nomatch e
  · exact .inr (.inl rfl)
  · exact .inl fun j e => nomatch e
  · exact .inr (.inr ⟨[], rfl, by rw [List.length_nil]; omega, .inl rfl⟩)
  · cases e
    exact .inr (.inr ⟨_, rfl, by rw [List.length_dropLast]; omega, .inr (.inl rfl)⟩)
  · cases e
    exact .inr (.inr ⟨_, rfl, by rw [List.length_append]; simp, .inr (.inr ⟨z, rfl⟩)⟩)
  · cases e
theorem odd_tupN {xs : List S} {lo hi : Int} {v : S} {n : Int} (ne : xs ≠ []) (h : OddV (.tup xs) lo hi v) (hn : (xs.length : Int) = n) : isTupN n v = false ∨ v = .tup [.tup [], .tup []] := by
  rcases odd_tup ne h with z | z | ⟨ys, rfl, z, _⟩
  · cases v with
    | tup ys => exact absurd rfl (z ys)
    | _ => exact .inl rfl
  · exact .inr z
  · refine .inl ?_
    show decide ((ys.length : Int) = n) = false
    rw [decide_eq_false_iff_not]; omega
theorem row_tupN {b n : Int} {v : S} (h : isTupN b v = false) : isRow b n v = false := by
  cases v with
  | tup ys =>
    show (decide ((ys.length : Int) = b) && ys.all (isLet n)) = false
    have h' : decide ((ys.length : Int) = b) = false := h
    rw [h']; rfl
  | _ => rfl
theorem blk_tupN {b n : Int} {v : S} (h : isTupN b v = false) : isBlk b n v = false := by
  cases v with
  | tup ys =>
    show (decide ((ys.length : Int) = b) && ys.all (isRow b n)) = false
    have h' : decide ((ys.length : Int) = b) = false := h
    rw [h']; rfl
  | _ => rfl
theorem row_nil {b n : Int} (h : 2 ≤ b) : isRow b n (.tup []) = false := by
  refine row_tupN ?_
  show decide (((([] : List S).length : Nat) : Int) = b) = false
  rw [decide_eq_false_iff_not, List.length_nil]; omega
theorem odd_row {xs : List S} {lo hi b n : Int} {v : S} (ne : xs ≠ []) (h : OddV (.tup xs) lo hi v) (hn : (xs.length : Int) = b) : isRow b n v = false := by
  rcases odd_tupN ne h hn with z | rfl
  · exact row_tupN z
  · show (decide _ && ([.tup [], .tup []] : List S).all (isLet n)) = false
    rw [List.all_cons]
    show (_ && (false && _)) = false
    simp
theorem odd_blk {xs : List S} {lo hi b n : Int} {v : S} (ne : xs ≠ []) (hb : 2 ≤ b) (h : OddV (.tup xs) lo hi v) (hn : (xs.length : Int) = b) : isBlk b n v = false := by
  rcases odd_tupN ne h hn with z | rfl
  · exact blk_tupN z
  · show (decide _ && ([.tup [], .tup []] : List S).all (isRow b n)) = false
    rw [List.all_cons, row_nil hb]
    simp
theorem row_put {b n : Int} {xs : List S} {v : S} (k : Nat) (h : isLet n v = false) : isRow b n (.tup (xs.take k ++ v :: xs.drop (k + 1))) = false := by
  show (_ && List.all _ (isLet n)) = false
  rw [all_put k h]; simp
theorem blk_put {b n : Int} {xs : List S} {v : S} (k : Nat) (h : isRow b n v = false) : isBlk b n (.tup (xs.take k ++ v :: xs.drop (k + 1))) = false := by
  show (_ && List.all _ (isRow b n)) = false
  rw [all_put k h]; simp
theorem bk_def (a1 a2 a3 : S) : isBook (.tup [a1, a2, a3]) = (isBase a1 && (isTup a2 && decide (1 ≤ (items a2).length) && decide ((items a2).length ≤ 64)) && isTupN (items a2).length a3 && (items a2).all isShade && (items a3).all (isBlk (intOf a1) (items a2).length)) := rfl
theorem bk_1 {a1 a2 a3 : S} (h : isBase a1 = false) : isBook (.tup [a1, a2, a3]) = false := by rw [bk_def, h]; simp
theorem bk_2 {a1 a2 a3 : S} (h : isTup a2 = false) : isBook (.tup [a1, a2, a3]) = false := by rw [bk_def, h]; simp
theorem bk_3 {a1 a2 a3 : S} (h : isTupN (items a2).length a3 = false) : isBook (.tup [a1, a2, a3]) = false := by rw [bk_def, h]; simp
theorem bk_4 {a1 a2 a3 : S} (h : (items a2).all isShade = false) : isBook (.tup [a1, a2, a3]) = false := by rw [bk_def, h]; simp
theorem bk_5 {a1 a2 a3 : S} (h : (items a3).all (isBlk (intOf a1) (items a2).length) = false) : isBook (.tup [a1, a2, a3]) = false := by rw [bk_def, h]; simp
theorem pic3 (a1 a2 a3 : S) : isPic (.tup [a1, a2, a3]) = false := rfl
theorem bk2 (a1 a2 : S) : isBook (.tup [a1, a2]) = false := rfl
theorem pic2 {a1 a2 : S} (h : isBook a1 = false) : isPic (.tup [a1, a2]) = false := by
  show (isBook a1 && _) = false
  rw [h]; rfl
theorem blk_parts {b n : Int} {s : S} (h : isBlk b n s = true) : ∃ xs, s = .tup xs ∧ (xs.length : Int) = b ∧ ∀ x ∈ xs, isRow b n x = true := by
  cases s with
  | tup xs =>
    have h' : (decide ((xs.length : Int) = b) && xs.all (isRow b n)) = true := h
    rw [Bool.and_eq_true, decide_eq_true_eq, List.all_eq_true] at h'
    exact ⟨xs, rfl, h'.1, h'.2⟩
  | _ => cases h
theorem row_parts {b n : Int} {s : S} (h : isRow b n s = true) : ∃ xs, s = .tup xs ∧ (xs.length : Int) = b ∧ ∀ x ∈ xs, isLet n x = true := by
  cases s with
  | tup xs =>
    have h' : (decide ((xs.length : Int) = b) && xs.all (isLet n)) = true := h
    rw [Bool.and_eq_true, decide_eq_true_eq, List.all_eq_true] at h'
    exact ⟨xs, rfl, h'.1, h'.2⟩
  | _ => cases h
theorem let_parts {n : Int} {s : S} (h : isLet n s = true) : ∃ i, s = .int i ∧ 0 ≤ i ∧ i < n := by
  cases s with
  | int i =>
    have h' : (decide (0 ≤ i) && decide (i < n)) = true := h
    rw [Bool.and_eq_true, decide_eq_true_eq, decide_eq_true_eq] at h'
    exact ⟨i, rfl, h'⟩
  | _ => cases h
theorem shade_parts {s : S} (h : isShade s = true) : ∃ i, s = .int i ∧ 0 ≤ i ∧ i ≤ 3 := by
  cases s with
  | int i =>
    have h' : (decide (0 ≤ i) && decide (i ≤ 3)) = true := h
    rw [Bool.and_eq_true, decide_eq_true_eq, decide_eq_true_eq] at h'
    exact ⟨i, rfl, h'⟩
  | _ => cases h
theorem Kn.row {M : Mem} {b n : Int} {s : S} (h : isRow b n s = true) : Kn M s := by
  obtain ⟨xs, rfl, _, h⟩ := row_parts h
  refine .tup fun x hx => ?_
  obtain ⟨i, rfl, _⟩ := let_parts (h x hx)
  exact .int i
theorem Kn.blk {M : Mem} {b n : Int} {s : S} (h : isBlk b n s = true) : Kn M s := by
  obtain ⟨xs, rfl, _, h⟩ := blk_parts h
  exact .tup fun x hx => Kn.row (h x hx)
theorem Kn.shades {M : Mem} {sh : List S} (h : sh.all isShade = true) : Kn M (.tup sh) := by
  rw [List.all_eq_true] at h
  refine .tup fun x hx => ?_
  obtain ⟨i, rfl, _⟩ := shade_parts (h x hx)
  exact .int i
theorem Kn.blks {M : Mem} {b n : Int} {bl : List S} (h : bl.all (isBlk b n) = true) : Kn M (.tup bl) := by
  rw [List.all_eq_true] at h
  exact .tup fun x hx => Kn.blk (h x hx)
/-- a good book, taken apart -/
structure BookOk (b : Int) (sh bl : List S) : Prop where
  b0 : 2 ≤ b
  b1 : b ≤ 4
  l0 : 1 ≤ sh.length
  l1 : sh.length ≤ 64
  lb : bl.length = sh.length
  as : sh.all isShade = true
  ab : bl.all (isBlk b sh.length) = true
abbrev bookS (b : Int) (sh bl : List S) : S := .tup [.int b, .tup sh, .tup bl]
theorem BookOk.kn {M : Mem} {b : Int} {sh bl : List S} (h : BookOk b sh bl) : Kn M (bookS b sh bl) := by
  refine .tup fun x hx => ?_
  simp only [List.mem_cons, List.not_mem_nil, or_false] at hx
  rcases hx with rfl | rfl | rfl
  · exact .int b
  · exact Kn.shades h.as
  · exact Kn.blks h.ab
theorem BookOk.is {b : Int} {sh bl : List S} (h : BookOk b sh bl) : isBook (bookS b sh bl) = true := by
  obtain ⟨b0, b1, l0, l1, lb, as, ab⟩ := h
  rw [bk_def]
  show ((([2, 3, 4] : List Int).contains b && (true && decide (1 ≤ sh.length) && decide (sh.length ≤ 64)) && decide ((bl.length : Int) = (sh.length : Int)) && sh.all isShade && bl.all (isBlk b sh.length)) : Bool) = true
  rw [as, ab]
  simp only [Bool.and_true, Bool.true_and, Bool.and_eq_true, decide_eq_true_eq]
  refine ⟨⟨?_, l0, l1⟩, by omega⟩
  rw [List.contains_eq_mem, decide_eq_true_eq]
  simp only [List.mem_cons, List.not_mem_nil, or_false]
  omega
theorem BookOk.pic {b i : Int} {sh bl : List S} (h : BookOk b sh bl) (h0 : 0 ≤ i) (h1 : i < sh.length) : isPic (.tup [bookS b sh bl, .int i]) = true := by
  show (isBook (bookS b sh bl) && (decide (0 ≤ i) && decide (i < (sh.length : Int)))) = true
  rw [h.is]
  simp only [Bool.true_and, Bool.and_eq_true, decide_eq_true_eq]
  exact ⟨h0, h1⟩
theorem nat_of {l : Int} (h : 0 ≤ l) : ∃ k : Nat, l = (k : Int) := ⟨l.toNat, by omega⟩
/-- a place in a good book, and what an odd value there makes of it -/
theorem spoilt {b : Int} {sh bl : List S} {ns : List Int} (h : BookOk b sh bl) (hp : PathOk b sh.length ns) : ∃ part, atS (bookS b sh bl) ns = some part ∧ ((∃ xs, part = .tup xs ∧ xs ≠ [] ∧ xs.length ≤ 1000) ∨ ∃ i : Int, part = .int i ∧ -1000 ≤ i ∧ i ≤ 1000) ∧ smP (bookS b sh bl) ns ∧
    ∀ v, OddV part (boundsS ns sh.length).1 (boundsS ns sh.length).2 v → ∃ r, putS (bookS b sh bl) ns v = some r ∧ isBook r = false ∧ isPic r = false := by
  obtain ⟨b0, b1, l0, l1, lb, as, ab⟩ := h
  have nsh : sh ≠ [] := fun e => by rw [e] at l0; exact absurd l0 (by decide)
  have nbl : bl ≠ [] := fun e => by rw [e] at lb; rw [← lb] at l0; exact absurd l0 (by decide)
  have nsm : ∀ {xs : List S}, (xs.length : Int) = b → xs ≠ [] := fun e z => by rw [z, List.length_nil] at e; omega
  cases hp with
  | p0 =>
    refine ⟨_, rfl, .inl ⟨_, rfl, by simp, by simp⟩, True.intro, fun v hv => ⟨v, rfl, ?_⟩⟩
    rcases odd_tup (by simp) hv with z | rfl | ⟨ys, rfl, _, rfl | rfl | ⟨z, rfl⟩⟩
    · cases v with
      | tup ys => exact absurd rfl (z ys)
      | _ => exact ⟨rfl, rfl⟩
    · exact ⟨rfl, rfl⟩
    · exact ⟨rfl, rfl⟩
    · exact ⟨rfl, rfl⟩
    · exact ⟨rfl, rfl⟩
  | p1 =>
    refine ⟨.int b, rfl, .inr ⟨b, rfl, by omega, by omega⟩, ⟨by simp, fun x _ => by trivial⟩, fun v hv => ⟨.tup [v, .tup sh, .tup bl], rfl, bk_1 (odd_base hv), pic3 _ _ _⟩⟩
  | p2 =>
    refine ⟨.tup sh, rfl, .inl ⟨sh, rfl, nsh, by omega⟩, ⟨by simp, fun x _ => by trivial⟩, fun v hv => ⟨.tup [.int b, v, .tup bl], rfl, ?_, pic3 _ _ _⟩⟩
    rcases odd_tup nsh hv with z | rfl | ⟨ys, rfl, hl, _⟩
    · refine bk_2 ?_
      cases v with
      | tup ys => exact absurd rfl (z ys)
      | _ => rfl
    · exact bk_4 rfl
    · refine bk_3 ?_
      show decide ((bl.length : Int) = (ys.length : Int)) = false
      rw [decide_eq_false_iff_not]; omega
  | @p3 l h0 h1 =>
    obtain ⟨k, rfl⟩ := nat_of h0
    have hk : k < sh.length := by omega
    have ek := List.getElem?_eq_getElem hk
    obtain ⟨i, ei, i0, i1⟩ := shade_parts (List.all_eq_true.mp as _ (List.getElem_mem hk))
    rw [ei] at ek
    refine ⟨.int i, ?_, .inr ⟨i, rfl, by omega, by omega⟩, ⟨by simp, fun x ex => ?_⟩, fun v hv => ⟨.tup [.int b, .tup (sh.take k ++ v :: sh.drop (k + 1)), .tup bl], ?_, ?_, pic3 _ _ _⟩⟩
    · exact (at1 (k := 1) rfl).trans ((at1 ek).trans rfl)
    · cases (show some (S.tup sh) = some x from ex)
      exact ⟨by omega, fun y _ => by trivial⟩
    · exact put1 (k := 1) rfl (put1 ek rfl)
    · exact bk_4 (all_put k (odd_shade hv))
  | p4 =>
    refine ⟨.tup bl, rfl, .inl ⟨bl, rfl, nbl, by omega⟩, ⟨by simp, fun x _ => by trivial⟩, fun v hv => ⟨.tup [.int b, .tup sh, v], rfl, ?_, pic3 _ _ _⟩⟩
    rcases odd_tupN (n := sh.length) nbl hv (by omega) with z | rfl
    · exact bk_3 z
    · refine bk_5 ?_
      show ([.tup [], .tup []] : List S).all (isBlk b sh.length) = false
      rw [List.all_cons, blk_tupN (v := .tup []) (b := b) (by show decide (((([] : List S).length : Nat) : Int) = b) = false; rw [decide_eq_false_iff_not, List.length_nil]; omega)]
      rfl
  | @p5 l h0 h1 =>
    obtain ⟨k, rfl⟩ := nat_of h0
    have hk : k < bl.length := by omega
    have ek := List.getElem?_eq_getElem hk
    obtain ⟨rs, er, hr, _⟩ := blk_parts (List.all_eq_true.mp ab _ (List.getElem_mem hk))
    rw [er] at ek
    refine ⟨.tup rs, ?_, .inl ⟨rs, rfl, nsm hr, by omega⟩, ⟨by simp, fun x ex => ?_⟩, fun v hv => ⟨.tup [.int b, .tup sh, .tup (bl.take k ++ v :: bl.drop (k + 1))], ?_, ?_, pic3 _ _ _⟩⟩
    · exact (at1 (k := 2) rfl).trans ((at1 ek).trans rfl)
    · cases (show some (S.tup bl) = some x from ex)
      exact ⟨by omega, fun y _ => by trivial⟩
    · exact put1 (k := 2) rfl (put1 ek rfl)
    · exact bk_5 (all_put k (odd_blk (nsm hr) b0 hv hr))
  | @p6 l i h0 h1 i0 i1 =>
    obtain ⟨k, rfl⟩ := nat_of h0
    obtain ⟨m, rfl⟩ := nat_of i0
    have hk : k < bl.length := by omega
    have ek := List.getElem?_eq_getElem hk
    obtain ⟨rs, er, hr, hrs⟩ := blk_parts (List.all_eq_true.mp ab _ (List.getElem_mem hk))
    rw [er] at ek
    have hm : m < rs.length := by omega
    have em := List.getElem?_eq_getElem hm
    obtain ⟨ls, el, hl, _⟩ := row_parts (hrs _ (List.getElem_mem hm))
    rw [el] at em
    refine ⟨.tup ls, ?_, .inl ⟨ls, rfl, nsm hl, by omega⟩, ⟨by simp, fun x ex => ?_⟩, fun v hv => ⟨.tup [.int b, .tup sh, .tup (bl.take k ++ .tup (rs.take m ++ v :: rs.drop (m + 1)) :: bl.drop (k + 1))], ?_, ?_, pic3 _ _ _⟩⟩
    · exact (at1 (k := 2) rfl).trans ((at1 ek).trans ((at1 em).trans rfl))
    · cases (show some (S.tup bl) = some x from ex)
      refine ⟨by omega, fun y ey => ?_⟩
      cases ek.symm.trans ey
      exact ⟨by omega, fun y _ => by trivial⟩
    · exact put1 (k := 2) rfl (put1 ek (put1 em rfl))
    · exact bk_5 (all_put k (blk_put m (odd_row (nsm hl) hv hl)))
  | @p7 l i j h0 h1 i0 i1 j0 j1 =>
    obtain ⟨k, rfl⟩ := nat_of h0
    obtain ⟨m, rfl⟩ := nat_of i0
    obtain ⟨c, rfl⟩ := nat_of j0
    have hk : k < bl.length := by omega
    have ek := List.getElem?_eq_getElem hk
    obtain ⟨rs, er, hr, hrs⟩ := blk_parts (List.all_eq_true.mp ab _ (List.getElem_mem hk))
    rw [er] at ek
    have hm : m < rs.length := by omega
    have em := List.getElem?_eq_getElem hm
    obtain ⟨ls, el, hl, hls⟩ := row_parts (hrs _ (List.getElem_mem hm))
    rw [el] at em
    have hc : c < ls.length := by omega
    have ec := List.getElem?_eq_getElem hc
    obtain ⟨x0, ex0, x00, x01⟩ := let_parts (hls _ (List.getElem_mem hc))
    rw [ex0] at ec
    refine ⟨.int x0, ?_, .inr ⟨x0, rfl, by omega, by omega⟩, ⟨by simp, fun x ex => ?_⟩, fun v hv => ⟨.tup [.int b, .tup sh, .tup (bl.take k ++ .tup (rs.take m ++ .tup (ls.take c ++ v :: ls.drop (c + 1)) :: rs.drop (m + 1)) :: bl.drop (k + 1))], ?_, ?_, pic3 _ _ _⟩⟩
    · exact (at1 (k := 2) rfl).trans ((at1 ek).trans ((at1 em).trans ((at1 ec).trans rfl)))
    · cases (show some (S.tup bl) = some x from ex)
      refine ⟨by omega, fun y ey => ?_⟩
      cases ek.symm.trans ey
      refine ⟨by omega, fun y ey => ?_⟩
      cases em.symm.trans ey
      exact ⟨by omega, fun y _ => by trivial⟩
    · exact put1 (k := 2) rfl (put1 ek (put1 em (put1 ec rfl)))
    · exact bk_5 (all_put k (blk_put m (row_put c (odd_let hv))))
end Sy

set_option Elab.async false
set_option linter.all false
set_option maxRecDepth 100000
set_option maxHeartbeats 1000000
namespace Sy
open PySem PySem.Spec PyProof.Rows L2
local macro_rules | `(tactic| walk_at "nm") => `(tactic| ((with_reducible refine' dn_name ?d _ ?h ?he ?q); (case d => assumption); (case h => with_reducible assumption); (case he => rfl)))
local macro_rules | `(tactic| walk_at "cn") => `(tactic| first | with_reducible refine se_int ?_ | with_reducible refine se_bl ?_ | with_reducible refine se_non ?_ | with_reducible refine se_str ?_)
local macro_rules | `(tactic| walk_at "ct") => `(tactic| ((with_reducible refine' dn_callT ?d ?m ?v ?g ?n ?db ?st ?pl ?q); (case d => assumption); (case m => with_reducible assumption); (case v => first | with_reducible exact bt_int | with_reducible exact bt_tuple | with_reducible exact bt_list | with_reducible exact bt_str | with_reducible exact bt_bool); (case g => with_reducible assumption); (case n => decide); (case db => decide); (case st => rfl); (case pl => rfl)))
local macro_rules | `(tactic| walk_at "cb") => `(tactic| ((with_reducible refine' dn_callB ?d ?m ?v ?g ?n ?db ?st ?pl ?q); (case d => assumption); (case m => with_reducible assumption); (case v => first | with_reducible exact bf_len | with_reducible exact bf_isinstance | with_reducible exact bf_all | with_reducible exact bf_max | with_reducible exact bf_min | with_reducible exact bf_abs | with_reducible exact bf_sum | with_reducible exact bf_any); (case g => with_reducible assumption); (case n => decide); (case db => decide); (case st => rfl); (case pl => rfl)))
local macro_rules | `(tactic| walk_at "cf") => `(tactic| ((with_reducible refine' dn_call ?d ?F ?g ?k ?db ?st ?pl ?q); (case d => assumption); (case F => with_reducible assumption); (case g => with_reducible assumption); (case k => decide); (case db => decide); (case st => rfl); (case pl => rfl)))
local macro_rules | `(tactic| walk_at "tv") => `(tactic| ((with_reducible refine' dn_ty ?d ?m ?v ?g ?n ?db ?q); (case d => assumption); (case m => with_reducible assumption); (case v => first | with_reducible exact bt_int | with_reducible exact bt_tuple | with_reducible exact bt_list | with_reducible exact bt_str | with_reducible exact bt_bool); (case g => with_reducible assumption); (case n => decide); (case db => decide)))
local macro_rules | `(tactic| walk_at "e") => `(tactic| first | walk_at "nm" | walk_at "cn" | with_reducible refine se_bin ?_ | ((with_reducible refine' se_cmp ?q ?st); (case st => first | exact nomark _ | rfl)) | ((with_reducible refine' se_ix ?q ?st); (case st => exact fun _ _ => rfl)) | with_reducible refine sa_nil ?_ | ((with_reducible refine' sa_cons ?q ?st); (case st => rfl)) | walk_at "cf" | walk_at "cb" | walk_at "ct" | walk_at "tv" | with_reducible refine se_one ?_ | ((with_reducible refine' se_chain ?q ?st); (case st => with_unfolding_all rfl)) | with_reducible refine se_tup ?_ | with_reducible refine se_lst ?_ | with_reducible refine se_and ?_ | with_reducible refine se_or ?_ | with_reducible refine se_not ?_ | with_reducible refine se_un ?_ )
local macro_rules | `(tactic| walk_at "v") => `(tactic| first | with_reducible refine ro_addI ?_ | with_reducible refine ro_subI ?_ | with_reducible refine rc_eqI ?_ | with_reducible refine rc_neI ?_ | with_reducible refine rc_ltI ?_ | with_reducible refine rc_leI ?_ | with_reducible refine rc_gtI ?_ | with_reducible refine rc_geI ?_ | with_reducible refine rb_intI ?_ | with_reducible refine ru_neg ?_ | with_reducible refine rb_tupleT ?_ | ((with_reducible refine rb_isInt ?h ?q); (case h => assumption)) | ((with_reducible refine rb_isBool ?h ?q); (case h => assumption)) | ((with_reducible refine rb_isTup ?h ?q); (case h => assumption)) | with_reducible refine rb_len its_tup ?_ | (refine rx_tup (by rfl) ?_) | ((with_reducible refine' rx_lst ?h ?a ?q); (case h => with_reducible assumption); (case a => rfl)))
local macro_rules | `(tactic| walk_at "ss") => `(tactic| first | with_reducible refine ss_ret (se_fg ?_) | with_reducible refine ss_if ?_ | ((with_reducible refine' ss_expr ?q ?st); (case st => rfl)) | ((with_reducible refine' dx_set ?d _ ?h ?hs ?q); (case d => assumption); (case h => with_reducible assumption); (case hs => rfl)))
local macro_rules | `(tactic| walk_at "s") => `(tactic| first | with_reducible refine sb_one ?_ | with_reducible refine sb_cons ?_ | walk_at "ss")
local macro_rules | `(tactic| walk_at "t") => `(tactic| first | with_reducible refine st_not ?_ | ((with_reducible refine' st_cmp ?q ?st); (case st => first | exact nomark _ | rfl)) | with_reducible refine sw_and1 ?_ | with_reducible refine sw_or1 ?_ | with_reducible refine sw_or ?_ | with_reducible refine sw_and ?_ | ((with_reducible refine' st_chain ?q ?st); (case st => with_unfolding_all rfl)) | (refine st_of ?_; first | with_reducible refine sw_or ?_ | with_reducible refine sw_and ?_) | ((with_reducible refine' st_val ?q ?st); (case st => intro _; rfl)))
local macro_rules | `(tactic| walk_at "go") => `(tactic| repeat (first | walk_at "e" | walk_at "v" | walk_at "s" | walk_at "t"))
local macro_rules | `(tactic| walk_at "gt") => `(tactic| repeat (first | walk_at "e" | walk_at "v" | walk_at "ss" | walk_at "t"))
def C_spoilt : Con := fun ss M Q _ => ∃ (p : Addr) (n : Nat) (b : Int) (sh bl : List S) (l : Int), ss = [.ptr p, bookS b sh bl, .int l] ∧ Ink M p n ∧ n ≤ 2 ^ 48 ∧ BookOk b sh bl ∧
  ∀ M', Ink M' p (n + 10) → Grow p M M' → Q (.bl true) M'
theorem told_eq {v : S} {b c : Bool} (hb : isBook v = b) (hc : isPic v = c) : (decide (isBook v = b) && decide (isPic v = c)) = true := by
  rw [hb, hc, decide_eq_true rfl, decide_eq_true rfl]; rfl
theorem told_q {v : S} {b c : Bool} {Q : QS} {M : Mem} (hb : isBook v = b) (hc : isPic v = c) (q : Q (.bl true) M) : Q (.bl (decide (isBook v = b) && decide (isPic v = c))) M := by
  rw [hb, hc, decide_eq_true rfl, decide_eq_true rfl]; exact q
theorem Kn.two {M : Mem} {a b : S} (ha : Kn M a) (hb : Kn M b) : Kn M (.tup [a, b]) := .tup fun s hs => by
  simp only [List.mem_cons, List.not_mem_nil, or_false] at hs
  rcases hs with rfl | rfl <;> assumption
section
variable {P : Program} {w : World} {K : PySem.W.Frag} {mg : Str → Option Value} {base : Heap}
theorem sc_spoilt : FnScope ["_law_ink_here", "_law_book", "_law_letter", "_law_path_here", "_law_low", "_law_high", "_law_odd_here", "_law_bad"] ["_law_ink_here", "_law_book", "_law_letter"] (defScope s_spoilt) := ⟨rfl, rfl, rfl, by decide +kernel, rfl, by decide +kernel, by decide +kernel⟩
theorem ok_spoilt {f : Addr} {fd : FuncData} (F : Fun K "_law_spoilt_right" "_law_spoilt_right" s_spoilt f fd) (T : Txt mg) (F_path : Fn P w K mg base "_law_path" 2 C_path) (F_bounds : Fn P w K mg base "_law_bounds" 1 C_bounds) (F_odd : Fn P w K mg base "_law_odd" 2 C_odd) (F_at : Fn P w K mg base "_law_at" 1 C_at)
    (F_with : Fn P w K mg base "_law_with" 5 (C_with 4)) (F_told : Fn P w K mg base "_law_told" 6 C_told) : FnOk P w K mg base (L2.CX P w) 7 f fd ["_law_ink_here", "_law_book", "_law_letter"] (SpC K C_spoilt) := by
  refine def_ok F sc_spoilt (fun ss M Q E h => ?_) (fun X G eP ew eK em eb d ss M Q E h wi => ?_)
  · obtain ⟨p, n, b, sh, bl, l, rfl, _⟩ := h; rfl
  subst eP ew eK em eb
  have dn := d.dn
  have n0 : nmB ["_law_ink_here", "_law_book", "_law_letter", "_law_path_here", "_law_low", "_law_high", "_law_odd_here", "_law_bad"] (defScope s_spoilt) 0 "_law_ink_here" = true := by decide +kernel
  have n1 : nmB ["_law_ink_here", "_law_book", "_law_letter", "_law_path_here", "_law_low", "_law_high", "_law_odd_here", "_law_bad"] (defScope s_spoilt) 1 "_law_book" = true := by decide +kernel
  have n2 : nmB ["_law_ink_here", "_law_book", "_law_letter", "_law_path_here", "_law_low", "_law_high", "_law_odd_here", "_law_bad"] (defScope s_spoilt) 2 "_law_letter" = true := by decide +kernel
  have n3 : nmB ["_law_ink_here", "_law_book", "_law_letter", "_law_path_here", "_law_low", "_law_high", "_law_odd_here", "_law_bad"] (defScope s_spoilt) 3 "_law_path_here" = true := by decide +kernel
  have n4 : nmB ["_law_ink_here", "_law_book", "_law_letter", "_law_path_here", "_law_low", "_law_high", "_law_odd_here", "_law_bad"] (defScope s_spoilt) 4 "_law_low" = true := by decide +kernel
  have n5 : nmB ["_law_ink_here", "_law_book", "_law_letter", "_law_path_here", "_law_low", "_law_high", "_law_odd_here", "_law_bad"] (defScope s_spoilt) 5 "_law_high" = true := by decide +kernel
  have n6 : nmB ["_law_ink_here", "_law_book", "_law_letter", "_law_path_here", "_law_low", "_law_high", "_law_odd_here", "_law_bad"] (defScope s_spoilt) 6 "_law_odd_here" = true := by decide +kernel
  have n7 : nmB ["_law_ink_here", "_law_book", "_law_letter", "_law_path_here", "_law_low", "_law_high", "_law_odd_here", "_law_bad"] (defScope s_spoilt) 7 "_law_bad" = true := by decide +kernel
  have l3 : lcB ["_law_ink_here", "_law_book", "_law_letter", "_law_path_here", "_law_low", "_law_high", "_law_odd_here", "_law_bad"] (defScope s_spoilt) 3 "_law_path_here" = true := by decide +kernel
  have l4 : lcB ["_law_ink_here", "_law_book", "_law_letter", "_law_path_here", "_law_low", "_law_high", "_law_odd_here", "_law_bad"] (defScope s_spoilt) 4 "_law_low" = true := by decide +kernel
  have l5 : lcB ["_law_ink_here", "_law_book", "_law_letter", "_law_path_here", "_law_low", "_law_high", "_law_odd_here", "_law_bad"] (defScope s_spoilt) 5 "_law_high" = true := by decide +kernel
  have l6 : lcB ["_law_ink_here", "_law_book", "_law_letter", "_law_path_here", "_law_low", "_law_high", "_law_odd_here", "_law_bad"] (defScope s_spoilt) 6 "_law_odd_here" = true := by decide +kernel
  have l7 : lcB ["_law_ink_here", "_law_book", "_law_letter", "_law_path_here", "_law_low", "_law_high", "_law_odd_here", "_law_bad"] (defScope s_spoilt) 7 "_law_bad" = true := by decide +kernel
  have g1 : glB (defScope s_spoilt) "_law_path" = true := by decide +kernel
  have g2 : glB (defScope s_spoilt) "_law_bounds" = true := by decide +kernel
  have g3 : glB (defScope s_spoilt) "_law_odd" = true := by decide +kernel
  have g4 : glB (defScope s_spoilt) "_law_at" = true := by decide +kernel
  have g5 : glB (defScope s_spoilt) "_law_with" = true := by decide +kernel
  have g6 : glB (defScope s_spoilt) "_law_told" = true := by decide +kernel
  have g7 : glB (defScope s_spoilt) "len" = true := by decide +kernel
  obtain ⟨t1, t2, t3, t4, t5, t6⟩ := T
  obtain ⟨p, n, b, sh, bl, l, rfl, hI, hn, hB, q⟩ := h
  have e49 : (2 : Nat) ^ 50 = 1125899906842624 := by decide
  have e49' : (2 : Nat) ^ 49 = 562949953421312 := by decide
  have e48' : (2 : Nat) ^ 48 = 281474976710656 := by decide
  conv => pattern (defBody _); whnf
  show SSs X G _ [some (.ptr p), some (bookS b sh bl), some (.int l), none, none, none, none, none] M _
  walk_at "go"
  refine ⟨p, _, b, sh, .tup bl, rfl, hI, by omega, hB.b0, hB.b1, hB.l0, hB.l1, fun r ns M1 hp hr nr I1 G1 => ?_⟩
  show SSs X G _ [some (.ptr p), some (bookS b sh bl), some (.int l), some (.ptr r), none, none, none, none] M1 _
  refine sb_cons ?_
  refine ss_asg ?_
  walk_at "gt"
  refine ⟨r, ns, _, rfl, hr, ?_⟩
  refine sg_tup (hc := d.calm) ?_
  refine sgs_cons ?_
  refine dx_tgt d 4 l4 ?_
  refine sgs_cons ?_
  refine dx_tgt d 5 l5 ?_
  refine sgs_nil ?_
  obtain ⟨part, hat, hpart, hsm, hput⟩ := spoilt hB hp
  have hlo : -1000 ≤ (boundsS ns sh.length).1 ∧ (boundsS ns sh.length).1 ≤ 1000 ∧ -1000 ≤ (boundsS ns sh.length).2 ∧ (boundsS ns sh.length).2 ≤ 1000 := by
    have := hB.l1
    have := hB.l0
    unfold boundsS
    split
    · refine ⟨?_, ?_, ?_, ?_⟩ <;> decide
    split
    · refine ⟨?_, ?_, ?_, ?_⟩ <;> decide
    refine ⟨?_, ?_, ?_, ?_⟩ <;> dsimp only <;> omega
  show SSs X G _ [some (.ptr p), some (bookS b sh bl), some (.int l), some (.ptr r), some (.int (boundsS ns sh.length).1), some (.int (boundsS ns sh.length).2), none, none] M1 _
  generalize boundsS ns sh.length = bd at hput hlo ⊢
  obtain ⟨lo, hi⟩ := bd
  obtain ⟨o1, o2, o3, o4⟩ := hlo
  show SSs X G _ [some (.ptr p), some (bookS b sh bl), some (.int l), some (.ptr r), some (.int lo), some (.int hi), none, none] M1 _
  walk_at "go"
  refine ⟨_, r, ns, part, rfl, hr, hat, ?_⟩
  walk_at "gt"
  refine ⟨p, _, part, lo, hi, rfl, I1, by omega, Kn.at hB.kn hat, o1, o2, o3, o4, hpart, fun v M2 hv kv I2 G2 => ?_⟩
  show SSs X G _ [some (.ptr p), some (bookS b sh bl), some (.int l), some (.ptr r), some (.int lo), some (.int hi), some v, none] M2 _
  obtain ⟨z, hz, z1, z2⟩ := hput v hv
  have hr2 : M2 r = some (.lst (ns.map S.int)) := G2 r _ nr hr
  have hl : ns.length ≤ 4 := by cases hp <;> simp
  walk_at "go"
  refine ⟨_, r, ns, v, z, rfl, hr2, hl, hz, hsm, ?_⟩
  show SSs X G _ [some (.ptr p), some (bookS b sh bl), some (.int l), some (.ptr r), some (.int lo), some (.int hi), some v, some z] M2 _
  have kz : Kn M2 z := Kn.puts kv hB.kn hz
  have fin : Q (.bl true) M2 := q M2 (I2.up (by omega)) (G1.trans G2)
  walk_at "go"
  refine ⟨z, _, _, rfl, kz, told_q z1 z2 ?_⟩
  refine QB.mk ⟨fun c => ?_, fun _ => ?_⟩
  · cases c
  refine sb_nil ?_
  walk_at "go"
  refine ⟨by simp only [List.length_cons, List.length_nil]; decide, ?_⟩
  walk_at "gt"
  refine ⟨_, _, _, rfl, Kn.two kz (.int 0), ?_⟩
  rw [told_eq (bk2 z _) (pic2 z1)]
  refine ⟨_, rfl, fun _ => ?_, fun c => nomatch c⟩
  walk_at "gt"
  refine ⟨by simp only [List.length_cons, List.length_nil]; decide, ?_⟩
  walk_at "gt"
  refine ⟨_, _, _, rfl, Kn.two kz (.int l), ?_⟩
  rw [told_eq (bk2 z _) (pic2 z1)]
  exact ⟨_, Sub.refl, fin⟩
end
end Sy

set_option Elab.async false
set_option linter.all false
set_option maxRecDepth 100000
set_option maxHeartbeats 1000000
namespace Sy
open PySem PySem.Spec PyProof.Rows L2
local macro_rules | `(tactic| walk_at "nm") => `(tactic| ((with_reducible refine' dn_name ?d _ ?h ?he ?q); (case d => assumption); (case h => with_reducible assumption); (case he => rfl)))
local macro_rules | `(tactic| walk_at "cn") => `(tactic| first | with_reducible refine se_int ?_ | with_reducible refine se_bl ?_ | with_reducible refine se_non ?_ | with_reducible refine se_str ?_)
local macro_rules | `(tactic| walk_at "ct") => `(tactic| ((with_reducible refine' dn_callT ?d ?m ?v ?g ?n ?db ?st ?pl ?q); (case d => assumption); (case m => with_reducible assumption); (case v => first | with_reducible exact bt_int | with_reducible exact bt_tuple | with_reducible exact bt_list | with_reducible exact bt_str | with_reducible exact bt_bool); (case g => with_reducible assumption); (case n => decide); (case db => decide); (case st => rfl); (case pl => rfl)))
local macro_rules | `(tactic| walk_at "cb") => `(tactic| ((with_reducible refine' dn_callB ?d ?m ?v ?g ?n ?db ?st ?pl ?q); (case d => assumption); (case m => with_reducible assumption); (case v => first | with_reducible exact bf_len | with_reducible exact bf_isinstance | with_reducible exact bf_all | with_reducible exact bf_max | with_reducible exact bf_min | with_reducible exact bf_abs | with_reducible exact bf_sum | with_reducible exact bf_any); (case g => with_reducible assumption); (case n => decide); (case db => decide); (case st => rfl); (case pl => rfl)))
local macro_rules | `(tactic| walk_at "cf") => `(tactic| ((with_reducible refine' dn_call ?d ?F ?g ?k ?db ?st ?pl ?q); (case d => assumption); (case F => with_reducible assumption); (case g => with_reducible assumption); (case k => decide); (case db => decide); (case st => rfl); (case pl => rfl)))
local macro_rules | `(tactic| walk_at "tv") => `(tactic| ((with_reducible refine' dn_ty ?d ?m ?v ?g ?n ?db ?q); (case d => assumption); (case m => with_reducible assumption); (case v => first | with_reducible exact bt_int | with_reducible exact bt_tuple | with_reducible exact bt_list | with_reducible exact bt_str | with_reducible exact bt_bool); (case g => with_reducible assumption); (case n => decide); (case db => decide)))
local macro_rules | `(tactic| walk_at "e") => `(tactic| first | walk_at "nm" | walk_at "cn" | with_reducible refine se_bin ?_ | ((with_reducible refine' se_cmp ?q ?st); (case st => first | exact nomark _ | rfl)) | ((with_reducible refine' se_ix ?q ?st); (case st => exact fun _ _ => rfl)) | with_reducible refine sa_nil ?_ | ((with_reducible refine' sa_cons ?q ?st); (case st => rfl)) | walk_at "cf" | walk_at "cb" | walk_at "ct" | walk_at "tv" | with_reducible refine se_one ?_ | ((with_reducible refine' se_chain ?q ?st); (case st => with_unfolding_all rfl)) | with_reducible refine se_tup ?_ | with_reducible refine se_lst ?_ | with_reducible refine se_and ?_ | with_reducible refine se_or ?_ | with_reducible refine se_not ?_ | with_reducible refine se_un ?_ )
local macro_rules | `(tactic| walk_at "v") => `(tactic| first | with_reducible refine ro_addI ?_ | with_reducible refine ro_subI ?_ | with_reducible refine rc_eqI ?_ | with_reducible refine rc_neI ?_ | with_reducible refine rc_ltI ?_ | with_reducible refine rc_leI ?_ | with_reducible refine rc_gtI ?_ | with_reducible refine rc_geI ?_ | with_reducible refine rb_intI ?_ | with_reducible refine ru_neg ?_ | with_reducible refine rb_tupleT ?_ | ((with_reducible refine rb_isInt ?h ?q); (case h => assumption)) | ((with_reducible refine rb_isBool ?h ?q); (case h => assumption)) | ((with_reducible refine rb_isTup ?h ?q); (case h => assumption)) | with_reducible refine rb_len its_tup ?_ | (refine rx_tup (by rfl) ?_) | ((with_reducible refine' rx_lst ?h ?a ?q); (case h => with_reducible assumption); (case a => rfl)))
local macro_rules | `(tactic| walk_at "ss") => `(tactic| first | with_reducible refine ss_ret (se_fg ?_) | with_reducible refine ss_if ?_ | ((with_reducible refine' ss_expr ?q ?st); (case st => rfl)) | ((with_reducible refine' dx_set ?d _ ?h ?hs ?q); (case d => assumption); (case h => with_reducible assumption); (case hs => rfl)))
local macro_rules | `(tactic| walk_at "s") => `(tactic| first | with_reducible refine sb_one ?_ | with_reducible refine sb_cons ?_ | walk_at "ss")
local macro_rules | `(tactic| walk_at "t") => `(tactic| first | with_reducible refine st_not ?_ | ((with_reducible refine' st_cmp ?q ?st); (case st => first | exact nomark _ | rfl)) | with_reducible refine sw_and1 ?_ | with_reducible refine sw_or1 ?_ | with_reducible refine sw_or ?_ | with_reducible refine sw_and ?_ | ((with_reducible refine' st_chain ?q ?st); (case st => with_unfolding_all rfl)) | (refine st_of ?_; first | with_reducible refine sw_or ?_ | with_reducible refine sw_and ?_) | ((with_reducible refine' st_val ?q ?st); (case st => intro _; rfl)))
local macro_rules | `(tactic| walk_at "go") => `(tactic| repeat (first | walk_at "e" | walk_at "v" | walk_at "s" | walk_at "t"))
local macro_rules | `(tactic| walk_at "gt") => `(tactic| repeat (first | walk_at "e" | walk_at "v" | walk_at "ss" | walk_at "t"))
theorem let_no {L : Int} {v : S} (h : ∀ i, v = .int i → i < 0 ∨ L ≤ i) : isLet L v = false := by
  cases v with
  | int i =>
    show (decide (0 ≤ i) && decide (i < L)) = false
    rw [Bool.and_eq_false_iff, decide_eq_false_iff_not, decide_eq_false_iff_not]
    rcases h i rfl with z | z
    · exact .inl (by omega)
    · exact .inr (by omega)
  | _ => rfl
theorem pic_let {b : Int} {sh bl : List S} {v : S} (h : isLet sh.length v = false) : isPic (.tup [bookS b sh bl, v]) = false := by
  show (isBook (bookS b sh bl) && isLet sh.length v) = false
  rw [h]; simp
theorem Kn.one {M : Mem} {a : S} (ha : Kn M a) : Kn M (.tup [a]) := .tup fun s hs => by
  rw [List.mem_singleton.mp hs]; exact ha
theorem Kn.three {M : Mem} {a b c : S} (ha : Kn M a) (hb : Kn M b) (hc : Kn M c) : Kn M (.tup [a, b, c]) := .tup fun s hs => by
  simp only [List.mem_cons, List.not_mem_nil, or_false] at hs
  rcases hs with rfl | rfl | rfl <;> assumption
section
variable {P : Program} {w : World} {K : PySem.W.Frag} {mg : Str → Option Value} {base : Heap}
theorem sc_pictures : FnScope ["_law_ink_here", "_law_book", "_law_letter", "_law_letters", "_law_odd_here", "_law_bad", "_law_near"] ["_law_ink_here", "_law_book", "_law_letter"] (defScope s_pictures) := ⟨rfl, rfl, rfl, by decide +kernel, rfl, by decide +kernel, by decide +kernel⟩
theorem ok_pictures {f : Addr} {fd : FuncData} (F : Fun K "_law_pictures_right" "_law_pictures_right" s_pictures f fd) (T : Txt mg) (T3 : mg "list" = none ∧ mg "str" = none) (F_drip : Fn P w K mg base "_law_drip" 1 C_drip) (F_told : Fn P w K mg base "_law_told" 6 C_told) : FnOk P w K mg base (L2.CX P w) 7 f fd ["_law_ink_here", "_law_book", "_law_letter"] (SpC K C_spoilt) := by
  refine def_ok F sc_pictures (fun ss M Q E h => ?_) (fun X G eP ew eK em eb d ss M Q E h wi => ?_)
  · obtain ⟨p, n, b, sh, bl, l, rfl, _⟩ := h; rfl
  subst eP ew eK em eb
  have dn := d.dn
  have n0 : nmB ["_law_ink_here", "_law_book", "_law_letter", "_law_letters", "_law_odd_here", "_law_bad", "_law_near"] (defScope s_pictures) 0 "_law_ink_here" = true := by decide +kernel
  have n1 : nmB ["_law_ink_here", "_law_book", "_law_letter", "_law_letters", "_law_odd_here", "_law_bad", "_law_near"] (defScope s_pictures) 1 "_law_book" = true := by decide +kernel
  have n2 : nmB ["_law_ink_here", "_law_book", "_law_letter", "_law_letters", "_law_odd_here", "_law_bad", "_law_near"] (defScope s_pictures) 2 "_law_letter" = true := by decide +kernel
  have n3 : nmB ["_law_ink_here", "_law_book", "_law_letter", "_law_letters", "_law_odd_here", "_law_bad", "_law_near"] (defScope s_pictures) 3 "_law_letters" = true := by decide +kernel
  have n4 : nmB ["_law_ink_here", "_law_book", "_law_letter", "_law_letters", "_law_odd_here", "_law_bad", "_law_near"] (defScope s_pictures) 4 "_law_odd_here" = true := by decide +kernel
  have n5 : nmB ["_law_ink_here", "_law_book", "_law_letter", "_law_letters", "_law_odd_here", "_law_bad", "_law_near"] (defScope s_pictures) 5 "_law_bad" = true := by decide +kernel
  have n6 : nmB ["_law_ink_here", "_law_book", "_law_letter", "_law_letters", "_law_odd_here", "_law_bad", "_law_near"] (defScope s_pictures) 6 "_law_near" = true := by decide +kernel
  have l3 : lcB ["_law_ink_here", "_law_book", "_law_letter", "_law_letters", "_law_odd_here", "_law_bad", "_law_near"] (defScope s_pictures) 3 "_law_letters" = true := by decide +kernel
  have l4 : lcB ["_law_ink_here", "_law_book", "_law_letter", "_law_letters", "_law_odd_here", "_law_bad", "_law_near"] (defScope s_pictures) 4 "_law_odd_here" = true := by decide +kernel
  have l5 : lcB ["_law_ink_here", "_law_book", "_law_letter", "_law_letters", "_law_odd_here", "_law_bad", "_law_near"] (defScope s_pictures) 5 "_law_bad" = true := by decide +kernel
  have l6 : lcB ["_law_ink_here", "_law_book", "_law_letter", "_law_letters", "_law_odd_here", "_law_bad", "_law_near"] (defScope s_pictures) 6 "_law_near" = true := by decide +kernel
  have g1 : glB (defScope s_pictures) "_law_drip" = true := by decide +kernel
  have g2 : glB (defScope s_pictures) "_law_told" = true := by decide +kernel
  have g3 : glB (defScope s_pictures) "len" = true := by decide +kernel
  have g4 : glB (defScope s_pictures) "list" = true := by decide +kernel
  obtain ⟨t1, t2, t3, t4, t5, t6⟩ := T
  obtain ⟨t7, t8⟩ := T3
  obtain ⟨p, n, b, sh, bl, l, rfl, hI, hn, hB, q⟩ := h
  have e49 : (2 : Nat) ^ 50 = 1125899906842624 := by decide
  have e48' : (2 : Nat) ^ 48 = 281474976710656 := by decide
  conv => pattern (defBody _); whnf
  show SSs X G _ [some (.ptr p), some (bookS b sh bl), some (.int l), none, none, none, none] M _
  walk_at "go"
  refine ro_powI (k := 20) (a := 8) (by decide) (by decide) (by decide) ?_
  walk_at "gt"
  refine ⟨p, _, _, rfl, hI, by omega, by decide, by decide, fun r1 M1 h1 h1' I1 B1 => ?_⟩
  walk_at "gt"
  refine ⟨by simp only [List.length_cons, List.length_nil]; decide, ?_⟩
  walk_at "gt"
  refine ⟨by simp only [List.length_cons, List.length_nil]; decide, fun u1 hu1 => ?_⟩
  obtain ⟨J1, nu1⟩ := I1.new (o := .lst [.int sh.length, .int (-1), .int (sh.length + r1), .bl true, .bl false, .non, .str (Str.ofString "0"), .tup [.int l]]) hu1
  walk_at "gt"
  refine ⟨p, _, _, rfl, J1, by omega, by decide, by decide, fun r2 M2 h2 h2' I2 B2 => ?_⟩
  refine rx_mem (Mem.but updM_same B2 nu1) h2 (by simpa using h2') fun od hs => ?_
  have hod : isLet sh.length od = false ∧ ∀ M', Kn M' od := by
    simp only [List.mem_cons, List.not_mem_nil, or_false] at hs
    rcases hs with rfl | rfl | rfl | rfl | rfl | rfl | rfl | rfl
    · exact ⟨let_no fun i e => by cases e; omega, fun _ => .int _⟩
    · exact ⟨let_no fun i e => by cases e; omega, fun _ => .int _⟩
    · exact ⟨let_no fun i e => by cases e; omega, fun _ => .int _⟩
    · exact ⟨rfl, fun _ => .bl _⟩
    · exact ⟨rfl, fun _ => .bl _⟩
    · exact ⟨rfl, fun _ => .non⟩
    · exact ⟨rfl, fun _ => .str _⟩
    · exact ⟨rfl, fun _ => Kn.one (.int _)⟩
  have G2 : Grow p M M2 := (B1.grow.sub (Sub.new hu1)).trans B2.grow
  generalize hM1 : updM M1 u1 _ = MM at J1 B2
  clear hM1 J1 B2 MM
  obtain ⟨od1, od2⟩ := hod
  show SSs X G _ [some (.ptr p), some (bookS b sh bl), some (.int l), some (.int sh.length), some od, none, none] M2 _
  walk_at "go"
  have sm : ∀ {xs : List S}, xs.length ≤ 9 → xs.length ≤ sizeLine := fun h => by rw [sizeLine_eq]; omega
  refine ⟨by simp only [List.length_cons, List.length_nil]; decide, ?_⟩
  walk_at "gt"
  refine ⟨by simp only [List.length_cons, List.length_nil]; decide, fun u2 hu2 => ?_⟩
  obtain ⟨J2, nu2⟩ := I2.new (o := .lst [bookS b sh bl, .int l]) hu2
  have x2 := updM_same (M := M2) (a := u2) (o := .lst [bookS b sh bl, .int l])
  have G3 := G2.sub (Sub.new (o := .lst [bookS b sh bl, .int l]) hu2)
  generalize updM M2 u2 (.lst [bookS b sh bl, .int l]) = M3 at J2 x2 G3 ⊢
  walk_at "gt"
  refine ⟨by simp only [List.length_cons, List.length_nil]; decide, ?_⟩
  walk_at "gt"
  refine ⟨by simp only [List.length_cons, List.length_nil]; decide, ?_⟩
  walk_at "gt"
  refine ⟨by simp only [List.length_cons, List.length_nil]; decide, ?_⟩
  walk_at "gt"
  refine ⟨by simp only [List.length_cons, List.length_nil]; decide, ?_⟩
  walk_at "gt"
  refine ⟨by simp only [List.length_cons, List.length_nil]; decide, fun u3 hu3 => ?_⟩
  obtain ⟨J3, nu3⟩ := J2.new (o := .lst [.tup [bookS b sh bl, od], .ptr u2, .tup [bookS b sh bl], .tup [bookS b sh bl, .int l, .int l], .tup [.int l, bookS b sh bl], .tup [bookS b sh bl, bookS b sh bl]]) hu3
  have y2 := Mem.new (o' := .lst [.tup [bookS b sh bl, od], .ptr u2, .tup [bookS b sh bl], .tup [bookS b sh bl, .int l, .int l], .tup [.int l, bookS b sh bl], .tup [bookS b sh bl, bookS b sh bl]]) x2 hu3
  have y3 := updM_same (M := M3) (a := u3) (o := .lst [.tup [bookS b sh bl, od], .ptr u2, .tup [bookS b sh bl], .tup [bookS b sh bl, .int l, .int l], .tup [.int l, bookS b sh bl], .tup [bookS b sh bl, bookS b sh bl]])
  have G4 := G3.sub (Sub.new (o := .lst [.tup [bookS b sh bl, od], .ptr u2, .tup [bookS b sh bl], .tup [bookS b sh bl, .int l, .int l], .tup [.int l, bookS b sh bl], .tup [bookS b sh bl, bookS b sh bl]]) hu3)
  generalize updM M3 u3 _ = M4 at J3 y2 y3 G4 ⊢
  show SSs X G _ [some (.ptr p), some (bookS b sh bl), some (.int l), some (.int sh.length), some od, some (.ptr u3), none] M4 _
  walk_at "go"
  refine ⟨by simp only [List.length_cons, List.length_nil]; decide, ?_⟩
  walk_at "gt"
  refine ⟨by simp only [List.length_cons, List.length_nil]; decide, ?_⟩
  walk_at "gt"
  refine rb_list its_tup fun u4 hu4 => ?_
  obtain ⟨J4, nu4⟩ := J3.new (o := .lst [.int b, .tup sh, .tup bl]) hu4
  have w2 := Mem.new (o' := .lst [.int b, .tup sh, .tup bl]) y2 hu4
  have w3 := Mem.new (o' := .lst [.int b, .tup sh, .tup bl]) y3 hu4
  have w4 := updM_same (M := M4) (a := u4) (o := .lst [.int b, .tup sh, .tup bl])
  have G5 := G4.sub (Sub.new (o := .lst [.int b, .tup sh, .tup bl]) hu4)
  generalize updM M4 u4 _ = M5 at J4 w2 w3 w4 G5 ⊢
  walk_at "gt"
  refine ⟨by simp only [List.length_cons, List.length_nil]; decide, ?_⟩
  walk_at "gt"
  refine ⟨by simp only [List.length_cons, List.length_nil]; decide, fun u5 hu5 => ?_⟩
  obtain ⟨J5, nu5⟩ := J4.new (o := .lst [.tup [.tup [bookS b sh bl, .int l], .int l], .tup [.ptr u4, .int l]]) hu5
  have v2 := Mem.new (o' := .lst [.tup [.tup [bookS b sh bl, .int l], .int l], .tup [.ptr u4, .int l]]) w2 hu5
  have v3 := Mem.new (o' := .lst [.tup [.tup [bookS b sh bl, .int l], .int l], .tup [.ptr u4, .int l]]) w3 hu5
  have v4 := Mem.new (o' := .lst [.tup [.tup [bookS b sh bl, .int l], .int l], .tup [.ptr u4, .int l]]) w4 hu5
  have v5 := updM_same (M := M5) (a := u5) (o := .lst [.tup [.tup [bookS b sh bl, .int l], .int l], .tup [.ptr u4, .int l]])
  have G6 := G5.sub (Sub.new (o := .lst [.tup [.tup [bookS b sh bl, .int l], .int l], .tup [.ptr u4, .int l]]) hu5)
  generalize updM M5 u5 _ = M6 at J5 v2 v3 v4 v5 G6 ⊢
  refine ro_catL v3 v5 (by simp only [List.length_cons, List.length_nil]; decide) fun u6 hu6 => ?_
  obtain ⟨J6, nu6⟩ := J5.new (o := .lst ([.tup [bookS b sh bl, od], .ptr u2, .tup [bookS b sh bl], .tup [bookS b sh bl, .int l, .int l], .tup [.int l, bookS b sh bl], .tup [bookS b sh bl, bookS b sh bl]] ++ [.tup [.tup [bookS b sh bl, .int l], .int l], .tup [.ptr u4, .int l]])) hu6
  have z2 := Mem.new (o' := .lst ([.tup [bookS b sh bl, od], .ptr u2, .tup [bookS b sh bl], .tup [bookS b sh bl, .int l, .int l], .tup [.int l, bookS b sh bl], .tup [bookS b sh bl, bookS b sh bl]] ++ [.tup [.tup [bookS b sh bl, .int l], .int l], .tup [.ptr u4, .int l]])) v2 hu6
  have z4 := Mem.new (o' := .lst ([.tup [bookS b sh bl, od], .ptr u2, .tup [bookS b sh bl], .tup [bookS b sh bl, .int l, .int l], .tup [.int l, bookS b sh bl], .tup [bookS b sh bl, bookS b sh bl]] ++ [.tup [.tup [bookS b sh bl, .int l], .int l], .tup [.ptr u4, .int l]])) v4 hu6
  have z6 := updM_same (M := M6) (a := u6) (o := .lst ([.tup [bookS b sh bl, od], .ptr u2, .tup [bookS b sh bl], .tup [bookS b sh bl, .int l, .int l], .tup [.int l, bookS b sh bl], .tup [bookS b sh bl, bookS b sh bl]] ++ [.tup [.tup [bookS b sh bl, .int l], .int l], .tup [.ptr u4, .int l]]))
  have G7 := G6.sub (Sub.new (o := .lst ([.tup [bookS b sh bl, od], .ptr u2, .tup [bookS b sh bl], .tup [bookS b sh bl, .int l, .int l], .tup [.int l, bookS b sh bl], .tup [bookS b sh bl, bookS b sh bl]] ++ [.tup [.tup [bookS b sh bl, .int l], .int l], .tup [.ptr u4, .int l]])) hu6)
  generalize updM M6 u6 _ = M7 at J6 z2 z4 z6 G7 ⊢
  show SSs X G _ [some (.ptr p), some (bookS b sh bl), some (.int l), some (.int sh.length), some od, some (.ptr u6), none] M7 _
  walk_at "go"
  refine ⟨p, _, _, rfl, J6, by omega, by decide, by decide, fun r3 M8 h3 h3' I8 B8 => ?_⟩
  have G8 := G7.trans B8.grow
  refine rx_mem (Mem.but z6 B8 nu6) h3 (by simpa using h3') fun bd hs => ?_
  have k2 : Kn M8 (.ptr u2) := .ptr (Mem.but z2 B8 nu2)
  have k4 : Kn M8 (.ptr u4) := .ptr (Mem.but z4 B8 nu4)
  have kb : Kn M8 (bookS b sh bl) := hB.kn
  have hbd : Kn M8 bd ∧ isBook bd = false ∧ isPic bd = false := by
    simp only [List.mem_append, List.mem_cons, List.not_mem_nil, or_false] at hs
    rcases hs with (rfl | rfl | rfl | rfl | rfl | rfl) | rfl | rfl
    · exact ⟨Kn.two kb (od2 _), rfl, pic_let od1⟩
    · exact ⟨k2, rfl, rfl⟩
    · exact ⟨Kn.one kb, rfl, rfl⟩
    · exact ⟨Kn.three kb (.int _) (.int _), bk_1 rfl, rfl⟩
    · exact ⟨Kn.two (.int _) kb, rfl, pic2 rfl⟩
    · exact ⟨Kn.two kb kb, rfl, pic_let rfl⟩
    · exact ⟨Kn.two (Kn.two kb (.int _)) (.int _), rfl, pic2 rfl⟩
    · exact ⟨Kn.two k4 (.int _), rfl, pic2 rfl⟩
  obtain ⟨kbd, b1, b2⟩ := hbd
  walk_at "gt"
  refine ⟨_, _, _, rfl, kbd, ?_⟩
  rw [told_eq b1 b2]
  refine QB.mk ⟨fun c => ?_, fun _ => ?_⟩
  · cases c
  refine sb_nil ?_
  walk_at "go"
  refine rb_list its_tup fun u7 hu7 => ?_
  obtain ⟨J7, nu7⟩ := I8.new (o := .lst sh) hu7
  have y7 := updM_same (M := M8) (a := u7) (o := .lst sh)
  have G9 := G8.sub (Sub.new (o := .lst sh) hu7)
  generalize updM M8 u7 _ = M9 at J7 y7 G9 ⊢
  walk_at "gt"
  refine ⟨by simp only [List.length_cons, List.length_nil]; decide, ?_⟩
  show SSs X G _ [some (.ptr p), some (bookS b sh bl), some (.int l), some (.int sh.length), some od, some (.ptr u6), some (.tup [.int b, .ptr u7, .tup bl])] M9 _
  have kn : Kn M9 (.tup [.int b, .ptr u7, .tup bl]) := Kn.three (.int _) (.ptr y7) (Kn.blks hB.ab)
  have fin : Q (.bl true) M9 := q M9 (J7.up (by omega)) G9
  walk_at "go"
  refine ⟨by simp only [List.length_cons, List.length_nil]; decide, ?_⟩
  walk_at "gt"
  refine ⟨_, _, _, rfl, Kn.two kn (.int l), ?_⟩
  rw [told_eq (b := false) (c := false) (bk2 _ _) (pic2 (bk_2 rfl))]
  refine ⟨_, rfl, fun _ => ?_, fun c => nomatch c⟩
  walk_at "gt"
  refine ⟨_, _, _, rfl, kn, ?_⟩
  rw [told_eq (b := false) (c := false) (bk_2 rfl) rfl]
  exact ⟨_, Sub.refl, fin⟩
end
end Sy

set_option Elab.async false
set_option linter.all false
set_option maxRecDepth 100000
set_option maxHeartbeats 1000000
namespace Sy
open PySem PySem.Spec PyProof.Rows L2
local macro_rules | `(tactic| walk_at "nm") => `(tactic| ((with_reducible refine' dn_name ?d _ ?h ?he ?q); (case d => assumption); (case h => with_reducible assumption); (case he => rfl)))
local macro_rules | `(tactic| walk_at "cn") => `(tactic| first | with_reducible refine se_int ?_ | with_reducible refine se_bl ?_ | with_reducible refine se_non ?_ | with_reducible refine se_str ?_)
local macro_rules | `(tactic| walk_at "ct") => `(tactic| ((with_reducible refine' dn_callT ?d ?m ?v ?g ?n ?db ?st ?pl ?q); (case d => assumption); (case m => with_reducible assumption); (case v => first | with_reducible exact bt_int | with_reducible exact bt_tuple | with_reducible exact bt_list | with_reducible exact bt_str | with_reducible exact bt_bool); (case g => with_reducible assumption); (case n => decide); (case db => decide); (case st => rfl); (case pl => rfl)))
local macro_rules | `(tactic| walk_at "cb") => `(tactic| ((with_reducible refine' dn_callB ?d ?m ?v ?g ?n ?db ?st ?pl ?q); (case d => assumption); (case m => with_reducible assumption); (case v => first | with_reducible exact bf_len | with_reducible exact bf_isinstance | with_reducible exact bf_all | with_reducible exact bf_max | with_reducible exact bf_min | with_reducible exact bf_abs | with_reducible exact bf_sum | with_reducible exact bf_any); (case g => with_reducible assumption); (case n => decide); (case db => decide); (case st => rfl); (case pl => rfl)))
local macro_rules | `(tactic| walk_at "cf") => `(tactic| ((with_reducible refine' dn_call ?d ?F ?g ?k ?db ?st ?pl ?q); (case d => assumption); (case F => with_reducible assumption); (case g => with_reducible assumption); (case k => decide); (case db => decide); (case st => rfl); (case pl => rfl)))
local macro_rules | `(tactic| walk_at "tv") => `(tactic| ((with_reducible refine' dn_ty ?d ?m ?v ?g ?n ?db ?q); (case d => assumption); (case m => with_reducible assumption); (case v => first | with_reducible exact bt_int | with_reducible exact bt_tuple | with_reducible exact bt_list | with_reducible exact bt_str | with_reducible exact bt_bool); (case g => with_reducible assumption); (case n => decide); (case db => decide)))
local macro_rules | `(tactic| walk_at "e") => `(tactic| first | walk_at "nm" | walk_at "cn" | with_reducible refine se_bin ?_ | ((with_reducible refine' se_cmp ?q ?st); (case st => first | exact nomark _ | rfl)) | ((with_reducible refine' se_ix ?q ?st); (case st => exact fun _ _ => rfl)) | with_reducible refine sa_nil ?_ | ((with_reducible refine' sa_cons ?q ?st); (case st => rfl)) | walk_at "cf" | walk_at "cb" | walk_at "ct" | walk_at "tv" | with_reducible refine se_one ?_ | ((with_reducible refine' se_chain ?q ?st); (case st => with_unfolding_all rfl)) | with_reducible refine se_tup ?_ | with_reducible refine se_lst ?_ | with_reducible refine se_and ?_ | with_reducible refine se_or ?_ | with_reducible refine se_not ?_ | with_reducible refine se_un ?_ )
local macro_rules | `(tactic| walk_at "v") => `(tactic| first | with_reducible refine ro_addI ?_ | with_reducible refine ro_subI ?_ | with_reducible refine rc_eqI ?_ | with_reducible refine rc_neI ?_ | with_reducible refine rc_ltI ?_ | with_reducible refine rc_leI ?_ | with_reducible refine rc_gtI ?_ | with_reducible refine rc_geI ?_ | with_reducible refine rb_intI ?_ | with_reducible refine ru_neg ?_ | with_reducible refine rb_tupleT ?_ | ((with_reducible refine rb_isInt ?h ?q); (case h => assumption)) | ((with_reducible refine rb_isBool ?h ?q); (case h => assumption)) | ((with_reducible refine rb_isTup ?h ?q); (case h => assumption)) | with_reducible refine rb_len its_tup ?_ | (refine rx_tup (by rfl) ?_) | ((with_reducible refine' rx_lst ?h ?a ?q); (case h => with_reducible assumption); (case a => rfl)))
local macro_rules | `(tactic| walk_at "ss") => `(tactic| first | with_reducible refine ss_ret (se_fg ?_) | with_reducible refine ss_if ?_ | ((with_reducible refine' ss_expr ?q ?st); (case st => rfl)) | ((with_reducible refine' dx_set ?d _ ?h ?hs ?q); (case d => assumption); (case h => with_reducible assumption); (case hs => rfl)))
local macro_rules | `(tactic| walk_at "s") => `(tactic| first | with_reducible refine sb_one ?_ | with_reducible refine sb_cons ?_ | walk_at "ss")
local macro_rules | `(tactic| walk_at "t") => `(tactic| first | with_reducible refine st_not ?_ | ((with_reducible refine' st_cmp ?q ?st); (case st => first | exact nomark _ | rfl)) | with_reducible refine sw_and1 ?_ | with_reducible refine sw_or1 ?_ | with_reducible refine sw_or ?_ | with_reducible refine sw_and ?_ | ((with_reducible refine' st_chain ?q ?st); (case st => with_unfolding_all rfl)) | (refine st_of ?_; first | with_reducible refine sw_or ?_ | with_reducible refine sw_and ?_) | ((with_reducible refine' st_val ?q ?st); (case st => intro _; rfl)))
local macro_rules | `(tactic| walk_at "go") => `(tactic| repeat (first | walk_at "e" | walk_at "v" | walk_at "s" | walk_at "t"))
local macro_rules | `(tactic| walk_at "gt") => `(tactic| repeat (first | walk_at "e" | walk_at "v" | walk_at "ss" | walk_at "t"))
local macro_rules | `(tactic| walk_at "gx") => `(tactic| repeat (first | walk_at "e" | walk_at "v" | walk_at "ss" | walk_at "t" | refine ⟨by simp only [List.length_cons, List.length_nil]; decide, ?_⟩))
def C_others : Con := fun ss M Q _ => ∃ (p : Addr) (n : Nat), ss = [.ptr p] ∧ Ink M p n ∧ n ≤ 2 ^ 48 ∧ ∀ M', Ink M' p (n + 10) → Grow p M M' → Q (.bl true) M'
theorem Kn.reps {M : Mem} {x : S} {n : Nat} (h : Kn M x) : Kn M (.tup (List.replicate n [x]).flatten) := .tup fun s hs => by
  obtain ⟨l, h1, h2⟩ := List.mem_flatten.mp hs
  rw [(List.mem_replicate.mp h1).2] at h2
  rw [List.mem_singleton.mp h2]; exact h
/-- the ink, and what else stands in the store -/
structure Sto (p : Addr) (n : Nat) (M0 : Mem) (C : List (Addr × MO)) (M : Mem) : Prop where
  ink : Ink M p n
  gr : Grow p M0 M
  has : ∀ c, c ∈ C → c.1 ≠ p ∧ M c.1 = some c.2
section
variable {p u q : Addr} {n m : Nat} {M0 M M' : Mem} {C : List (Addr × MO)} {o : MO}
theorem Sto.of (h : Ink M p n) : Sto p n M [] M := ⟨h, Grow.refl, fun c hc => nomatch hc⟩
theorem Sto.new (s : Sto p n M0 C M) (hu : M u = none) : Sto p n M0 ((u, o) :: C) (updM M u o) := by
  obtain ⟨I, ne⟩ := s.ink.new (o := o) hu
  refine ⟨I, s.gr.sub (Sub.new hu), fun c hc => ?_⟩
  rcases List.mem_cons.mp hc with rfl | z
  · exact ⟨ne, updM_same⟩
  · obtain ⟨a, b⟩ := s.has c z
    exact ⟨a, Mem.new b hu⟩
theorem Sto.gen (s : Sto p n M0 C M) (hu : M u = none) (e : updM M u o = M') : Sto p n M0 ((u, o) :: C) M' := e ▸ s.new hu
theorem Sto.drip (s : Sto p n M0 C M) (I : Ink M' p m) (B : But p M M') : Sto p m M0 C M' := ⟨I, s.gr.trans B.grow, fun c hc => by
  obtain ⟨a, b⟩ := s.has c hc
  exact ⟨a, Mem.but b B a⟩⟩
theorem Sto.grow (s : Sto p n M0 C M) (I : Ink M' p m) (B : Grow p M M') : Sto p m M0 C M' := ⟨I, s.gr.trans B, fun c hc => by
  obtain ⟨a, b⟩ := s.has c hc
  exact ⟨a, B _ _ a b⟩⟩
theorem Sto.at (s : Sto p n M0 C M) (i : Nat) (h : C[i]? = some (q, o)) : M q = some o := (s.has _ (List.mem_of_getElem? h)).2
theorem Sto.kn (s : Sto p n M0 C M) (i : Nat) (h : C[i]? = some (q, o)) : Kn M (.ptr q) := .ptr (s.at i h)
end
section
variable {P : Program} {w : World} {K : PySem.W.Frag} {mg : Str → Option Value} {base : Heap}
theorem sc_others : FnScope ["_law_ink_here", "_law_others"] ["_law_ink_here"] (defScope s_others) := ⟨rfl, rfl, rfl, by decide +kernel, rfl, by decide +kernel, by decide +kernel⟩
theorem ok_others {f : Addr} {fd : FuncData} (F : Fun K "_law_others_right" "_law_others_right" s_others f fd) (T : Txt mg) (F_drip : Fn P w K mg base "_law_drip" 1 C_drip) (F_told : Fn P w K mg base "_law_told" 6 C_told) : FnOk P w K mg base (L2.CX P w) 7 f fd ["_law_ink_here"] (SpC K C_others) := by
  refine def_ok F sc_others (fun ss M Q E h => ?_) (fun X G eP ew eK em eb d ss M Q E h wi => ?_)
  · obtain ⟨p, n, rfl, _⟩ := h; rfl
  subst eP ew eK em eb
  have dn := d.dn
  have n0 : nmB ["_law_ink_here", "_law_others"] (defScope s_others) 0 "_law_ink_here" = true := by decide +kernel
  have n1 : nmB ["_law_ink_here", "_law_others"] (defScope s_others) 1 "_law_others" = true := by decide +kernel
  have l1 : lcB ["_law_ink_here", "_law_others"] (defScope s_others) 1 "_law_others" = true := by decide +kernel
  have g1 : glB (defScope s_others) "_law_drip" = true := by decide +kernel
  have g2 : glB (defScope s_others) "_law_told" = true := by decide +kernel
  have g3 : glB (defScope s_others) "len" = true := by decide +kernel
  obtain ⟨t1, t2, t3, t4, t5, t6⟩ := T
  obtain ⟨p, n, rfl, hI, hn, q⟩ := h
  have e49 : (2 : Nat) ^ 50 = 1125899906842624 := by decide
  have e48' : (2 : Nat) ^ 48 = 281474976710656 := by decide
  conv => pattern (defBody _); whnf
  show SSs X G _ [some (.ptr p), none] M _
  have s0 := Sto.of hI
  walk_at "go"
  walk_at "gx"
  refine fun u1 h1 => ?_
  generalize e1 : updM _ u1 _ = M1
  have s1 := s0.gen h1 e1
  walk_at "gx"
  refine se_dict0 fun u2 h2 => ?_
  generalize e2 : updM _ u2 _ = M2
  have s2 := s1.gen h2 e2
  walk_at "gx"
  refine fun u3 h3 => ?_
  generalize e3 : updM _ u3 _ = M3
  have s3 := s2.gen h3 e3
  show SSs X G _ [some (.ptr p), some (.ptr u3)] M3 _
  walk_at "go"
  walk_at "gx"
  refine fun u4 h4 => ?_
  generalize e4 : updM _ u4 _ = M4
  have s4 := s3.gen h4 e4
  walk_at "gx"
  refine fun u5 h5 => ?_
  generalize e5 : updM _ u5 _ = M5
  have s5 := s4.gen h5 e5
  walk_at "gx"
  refine fun u6 h6 => ?_
  generalize e6 : updM _ u6 _ = M6
  have s6 := s5.gen h6 e6
  walk_at "gx"
  refine fun u7 h7 => ?_
  generalize e7 : updM _ u7 _ = M7
  have s7 := s6.gen h7 e7
  walk_at "gx"
  refine fun u8 h8 => ?_
  generalize e8 : updM _ u8 _ = M8
  have s8 := s7.gen h8 e8
  walk_at "gx"
  refine fun u9 h9 => ?_
  generalize e9 : updM _ u9 _ = M9
  have s9 := s8.gen h9 e9
  walk_at "gx"
  refine fun u10 h10 => ?_
  generalize e10 : updM _ u10 _ = M10
  have s10 := s9.gen h10 e10
  refine ro_catL (s10.at 7 rfl) (s10.at 0 rfl) (by simp only [List.length_cons, List.length_nil]; decide) fun u11 h11 => ?_
  generalize e11 : updM _ u11 _ = M11
  have s11 := s10.gen h11 e11
  show SSs X G _ [some (.ptr p), some (.ptr u11)] M11 _
  walk_at "go"
  walk_at "gx"
  refine ro_repT (by simp) (by decide) (by decide) (by simp) ?_
  walk_at "gx"
  refine ro_repT (by simp) (by decide) (by decide) (by simp) ?_
  walk_at "gx"
  refine se_dictC (.str .nil) (by simp) (by decide) rfl rfl rfl fun u12 o12 h12 => ?_
  generalize e12 : updM _ u12 _ = M12
  have s12 := s11.gen h12 e12
  walk_at "gx"
  refine fun u13 h13 => ?_
  generalize e13 : updM _ u13 _ = M13
  have s13 := s12.gen h13 e13
  refine ro_catL (s13.at 2 rfl) (s13.at 0 rfl) (by simp only [List.length_cons, List.length_nil, List.length_append]; decide) fun u14 h14 => ?_
  generalize e14 : updM _ u14 _ = M14
  have s14 := s13.gen h14 e14
  show SSs X G _ [some (.ptr p), some (.ptr u14)] M14 _
  have z14 := s14.at 0 rfl
  walk_at "go"
  refine rb_len (its_lst z14) ?_
  walk_at "gt"
  refine ⟨p, _, _, rfl, s14.ink, by omega, by simp only [List.length_cons, List.length_nil, List.length_append]; decide, by simp only [List.length_cons, List.length_nil, List.length_append]; decide, fun r M15 hr hr' I15 B15 => ?_⟩
  have s15 := s14.drip I15 B15
  refine rx_mem (s15.at 0 rfl) hr hr' fun bd hs => ?_
  have hbd : Kn M15 bd ∧ isBook bd = false ∧ isPic bd = false := by
    clear q
    have ki : ∀ i, Kn M15 (.int i) := fun i => .int i
    have kt : Kn M15 (.tup []) := .tup fun s hs => nomatch hs
    have k1 : Kn M15 (.ptr u1) := s15.kn 13 rfl
    have k2 : Kn M15 (.ptr u2) := s15.kn 12 rfl
    have k9 : Kn M15 (.ptr u9) := s15.kn 5 rfl
    have k12 : Kn M15 (.ptr u12) := s15.kn 2 rfl
    simp only [List.mem_append, List.mem_cons, List.not_mem_nil, or_false] at hs
    rcases hs with ((rfl | rfl | rfl | rfl | rfl | rfl | rfl | rfl | rfl | rfl | rfl | rfl | rfl) | rfl | rfl | rfl) | rfl | rfl | rfl | rfl
    · exact ⟨.non, rfl, rfl⟩
    · exact ⟨.bl _, rfl, rfl⟩
    · exact ⟨ki _, rfl, rfl⟩
    · exact ⟨ki _, rfl, rfl⟩
    · exact ⟨.str _, rfl, rfl⟩
    · exact ⟨.str _, rfl, rfl⟩
    · exact ⟨k1, rfl, rfl⟩
    · exact ⟨kt, rfl, rfl⟩
    · exact ⟨k2, rfl, rfl⟩
    · exact ⟨Kn.two (ki _) (ki _), rfl, pic2 rfl⟩
    · exact ⟨Kn.three (ki _) kt kt, rfl, rfl⟩
    · exact ⟨Kn.two (Kn.three (ki _) kt kt) (ki _), rfl, pic2 rfl⟩
    · exact ⟨Kn.three (ki _) (Kn.one (ki _)) kt, bk_3 rfl, rfl⟩
    · exact ⟨Kn.three (ki _) (Kn.one (Kn.one (ki _))) (Kn.one (Kn.two (Kn.two (ki _) (ki _)) (Kn.two (ki _) (ki _)))), bk_4 rfl, rfl⟩
    · exact ⟨Kn.three (ki _) (Kn.one (ki _)) (Kn.one (Kn.one (Kn.one (ki _)))), bk_1 (base_no (by decide)), rfl⟩
    · exact ⟨k9, rfl, rfl⟩
    · exact ⟨Kn.three (ki _) (Kn.one (ki _)) (Kn.one (Kn.reps (Kn.reps (ki _)))), bk_1 (base_no (by decide)), rfl⟩
    · exact ⟨k12, rfl, rfl⟩
    · exact ⟨Kn.two (ki _) (Kn.one (ki _)), rfl, pic2 rfl⟩
    · exact ⟨Kn.three (.bl _) (Kn.one (ki _)) (Kn.one (Kn.one (Kn.one (ki _)))), bk_1 rfl, rfl⟩
  obtain ⟨kbd, b1, b2⟩ := hbd
  walk_at "gt"
  refine ⟨_, _, _, rfl, kbd, ?_⟩
  rw [told_eq b1 b2]
  exact ⟨_, Sub.refl, q _ (s15.ink.up (by omega)) s15.gr⟩
end
end Sy

set_option Elab.async false
set_option linter.all false
set_option maxRecDepth 100000
set_option maxHeartbeats 1000000
namespace Sy
open PySem PySem.Spec PyProof.Rows L2
local macro_rules | `(tactic| walk_at "nm") => `(tactic| ((with_reducible refine' dn_name ?d _ ?h ?he ?q); (case d => assumption); (case h => with_reducible assumption); (case he => rfl)))
local macro_rules | `(tactic| walk_at "cn") => `(tactic| first | with_reducible refine se_int ?_ | with_reducible refine se_bl ?_ | with_reducible refine se_non ?_ | with_reducible refine se_str ?_)
local macro_rules | `(tactic| walk_at "ct") => `(tactic| ((with_reducible refine' dn_callT ?d ?m ?v ?g ?n ?db ?st ?pl ?q); (case d => assumption); (case m => with_reducible assumption); (case v => first | with_reducible exact bt_int | with_reducible exact bt_tuple | with_reducible exact bt_list | with_reducible exact bt_str | with_reducible exact bt_bool); (case g => with_reducible assumption); (case n => decide); (case db => decide); (case st => rfl); (case pl => rfl)))
local macro_rules | `(tactic| walk_at "cb") => `(tactic| ((with_reducible refine' dn_callB ?d ?m ?v ?g ?n ?db ?st ?pl ?q); (case d => assumption); (case m => with_reducible assumption); (case v => first | with_reducible exact bf_len | with_reducible exact bf_isinstance | with_reducible exact bf_all | with_reducible exact bf_max | with_reducible exact bf_min | with_reducible exact bf_abs | with_reducible exact bf_sum | with_reducible exact bf_any); (case g => with_reducible assumption); (case n => decide); (case db => decide); (case st => rfl); (case pl => rfl)))
local macro_rules | `(tactic| walk_at "cf") => `(tactic| ((with_reducible refine' dn_call ?d ?F ?g ?k ?db ?st ?pl ?q); (case d => assumption); (case F => with_reducible assumption); (case g => with_reducible assumption); (case k => decide); (case db => decide); (case st => rfl); (case pl => rfl)))
local macro_rules | `(tactic| walk_at "tv") => `(tactic| ((with_reducible refine' dn_ty ?d ?m ?v ?g ?n ?db ?q); (case d => assumption); (case m => with_reducible assumption); (case v => first | with_reducible exact bt_int | with_reducible exact bt_tuple | with_reducible exact bt_list | with_reducible exact bt_str | with_reducible exact bt_bool); (case g => with_reducible assumption); (case n => decide); (case db => decide)))
local macro_rules | `(tactic| walk_at "e") => `(tactic| first | walk_at "nm" | walk_at "cn" | with_reducible refine se_bin ?_ | ((with_reducible refine' se_cmp ?q ?st); (case st => first | exact nomark _ | rfl)) | ((with_reducible refine' se_ix ?q ?st); (case st => exact fun _ _ => rfl)) | with_reducible refine sa_nil ?_ | ((with_reducible refine' sa_cons ?q ?st); (case st => rfl)) | walk_at "cf" | walk_at "cb" | walk_at "ct" | walk_at "tv" | with_reducible refine se_one ?_ | ((with_reducible refine' se_chain ?q ?st); (case st => with_unfolding_all rfl)) | with_reducible refine se_tup ?_ | with_reducible refine se_lst ?_ | with_reducible refine se_and ?_ | with_reducible refine se_or ?_ | with_reducible refine se_not ?_ | with_reducible refine se_un ?_ )
local macro_rules | `(tactic| walk_at "v") => `(tactic| first | with_reducible refine ro_addI ?_ | with_reducible refine ro_subI ?_ | with_reducible refine rc_eqI ?_ | with_reducible refine rc_neI ?_ | with_reducible refine rc_ltI ?_ | with_reducible refine rc_leI ?_ | with_reducible refine rc_gtI ?_ | with_reducible refine rc_geI ?_ | with_reducible refine rb_intI ?_ | with_reducible refine ru_neg ?_ | with_reducible refine rb_tupleT ?_ | ((with_reducible refine rb_isInt ?h ?q); (case h => assumption)) | ((with_reducible refine rb_isBool ?h ?q); (case h => assumption)) | ((with_reducible refine rb_isTup ?h ?q); (case h => assumption)) | with_reducible refine rb_len its_tup ?_ | (refine rx_tup (by rfl) ?_) | ((with_reducible refine' rx_lst ?h ?a ?q); (case h => with_reducible assumption); (case a => rfl)))
local macro_rules | `(tactic| walk_at "ss") => `(tactic| first | with_reducible refine ss_ret (se_fg ?_) | with_reducible refine ss_if ?_ | ((with_reducible refine' ss_expr ?q ?st); (case st => rfl)) | ((with_reducible refine' dx_set ?d _ ?h ?hs ?q); (case d => assumption); (case h => with_reducible assumption); (case hs => rfl)))
local macro_rules | `(tactic| walk_at "s") => `(tactic| first | with_reducible refine sb_one ?_ | with_reducible refine sb_cons ?_ | walk_at "ss")
local macro_rules | `(tactic| walk_at "t") => `(tactic| first | with_reducible refine st_not ?_ | ((with_reducible refine' st_cmp ?q ?st); (case st => first | exact nomark _ | rfl)) | with_reducible refine sw_and1 ?_ | with_reducible refine sw_or1 ?_ | with_reducible refine sw_or ?_ | with_reducible refine sw_and ?_ | ((with_reducible refine' st_chain ?q ?st); (case st => with_unfolding_all rfl)) | (refine st_of ?_; first | with_reducible refine sw_or ?_ | with_reducible refine sw_and ?_) | ((with_reducible refine' st_val ?q ?st); (case st => intro _; rfl)))
local macro_rules | `(tactic| walk_at "go") => `(tactic| repeat (first | walk_at "e" | walk_at "v" | walk_at "s" | walk_at "t"))
local macro_rules | `(tactic| walk_at "gt") => `(tactic| repeat (first | walk_at "e" | walk_at "v" | walk_at "ss" | walk_at "t"))
local macro_rules | `(tactic| walk_at "gx") => `(tactic| repeat (first | walk_at "e" | walk_at "v" | walk_at "ss" | walk_at "t" | refine ⟨by simp only [List.length_cons, List.length_nil]; decide, ?_⟩))
theorem blk_len {b o n : Int} {s : S} (h : isBlk b n s = true) (ne : o ≠ b) : isBlk o n s = false := by
  obtain ⟨xs, rfl, hl, _⟩ := blk_parts h
  refine blk_tupN ?_
  show decide ((xs.length : Int) = o) = false
  rw [decide_eq_false_iff_not]; omega
theorem bk_other {b o : Int} {sh bl : List S} (h : BookOk b sh bl) (ne : o ≠ b) : isBook (.tup [.int o, .tup sh, .tup bl]) = false := by
  refine bk_5 ?_
  show bl.all (isBlk o sh.length) = false
  have l0 := h.l0
  have lb := h.lb
  have hb : 0 < bl.length := by omega
  rw [List.all_eq_false]
  refine ⟨bl[0], List.getElem_mem hb, ?_⟩
  rw [blk_len (List.all_eq_true.mp h.ab _ (List.getElem_mem hb)) ne]
  simp
theorem bk_square {b : Int} {o k : Nat} {sh bl : List S} {x : S} (ne : (o : Int) ≠ b) : isBook (.tup [.int b, .tup sh, .tup (bl.take k ++ [.tup (List.replicate o [x]).flatten] ++ bl.drop (k + 1))]) = false := by
  refine bk_5 ?_
  rw [List.append_assoc]
  refine all_put k (blk_tupN ?_)
  show decide ((((List.replicate o [x]).flatten.length : Nat) : Int) = b) = false
  rw [decide_eq_false_iff_not, flat_rep, List.length_replicate]
  exact ne
theorem Sto.tail {p : Addr} {n : Nat} {M0 M : Mem} {c : Addr × MO} {C : List (Addr × MO)} (s : Sto p n M0 (c :: C) M) : Sto p n M0 C M := ⟨s.ink, s.gr, fun x hx => s.has x (List.mem_cons_of_mem _ hx)⟩
section
variable {P : Program} {w : World} {K : PySem.W.Frag} {mg : Str → Option Value} {base : Heap}
theorem sc_bases : FnScope ["_law_ink_here", "_law_book", "_law_letter", "_law_base", "_law_shades", "_law_blocks", "_law_other", "_law_at_here", "_law_square", "_law_bad", "_law_others"] ["_law_ink_here", "_law_book", "_law_letter"] (defScope s_bases) := ⟨rfl, rfl, rfl, by decide +kernel, rfl, by decide +kernel, by decide +kernel⟩
theorem ok_bases {f : Addr} {fd : FuncData} (F : Fun K "_law_bases_right" "_law_bases_right" s_bases f fd) (T : Txt mg) (F_drip : Fn P w K mg base "_law_drip" 1 C_drip) (F_told : Fn P w K mg base "_law_told" 6 C_told) : FnOk P w K mg base (L2.CX P w) 7 f fd ["_law_ink_here", "_law_book", "_law_letter"] (SpC K C_spoilt) := by
  refine def_ok F sc_bases (fun ss M Q E h => ?_) (fun X G eP ew eK em eb d ss M Q E h wi => ?_)
  · obtain ⟨p, n, b, sh, bl, l, rfl, _⟩ := h; rfl
  subst eP ew eK em eb
  have dn := d.dn
  have n0 : nmB ["_law_ink_here", "_law_book", "_law_letter", "_law_base", "_law_shades", "_law_blocks", "_law_other", "_law_at_here", "_law_square", "_law_bad", "_law_others"] (defScope s_bases) 0 "_law_ink_here" = true := by decide +kernel
  have n1 : nmB ["_law_ink_here", "_law_book", "_law_letter", "_law_base", "_law_shades", "_law_blocks", "_law_other", "_law_at_here", "_law_square", "_law_bad", "_law_others"] (defScope s_bases) 1 "_law_book" = true := by decide +kernel
  have n2 : nmB ["_law_ink_here", "_law_book", "_law_letter", "_law_base", "_law_shades", "_law_blocks", "_law_other", "_law_at_here", "_law_square", "_law_bad", "_law_others"] (defScope s_bases) 2 "_law_letter" = true := by decide +kernel
  have n3 : nmB ["_law_ink_here", "_law_book", "_law_letter", "_law_base", "_law_shades", "_law_blocks", "_law_other", "_law_at_here", "_law_square", "_law_bad", "_law_others"] (defScope s_bases) 3 "_law_base" = true := by decide +kernel
  have n4 : nmB ["_law_ink_here", "_law_book", "_law_letter", "_law_base", "_law_shades", "_law_blocks", "_law_other", "_law_at_here", "_law_square", "_law_bad", "_law_others"] (defScope s_bases) 4 "_law_shades" = true := by decide +kernel
  have n5 : nmB ["_law_ink_here", "_law_book", "_law_letter", "_law_base", "_law_shades", "_law_blocks", "_law_other", "_law_at_here", "_law_square", "_law_bad", "_law_others"] (defScope s_bases) 5 "_law_blocks" = true := by decide +kernel
  have n6 : nmB ["_law_ink_here", "_law_book", "_law_letter", "_law_base", "_law_shades", "_law_blocks", "_law_other", "_law_at_here", "_law_square", "_law_bad", "_law_others"] (defScope s_bases) 6 "_law_other" = true := by decide +kernel
  have n7 : nmB ["_law_ink_here", "_law_book", "_law_letter", "_law_base", "_law_shades", "_law_blocks", "_law_other", "_law_at_here", "_law_square", "_law_bad", "_law_others"] (defScope s_bases) 7 "_law_at_here" = true := by decide +kernel
  have n8 : nmB ["_law_ink_here", "_law_book", "_law_letter", "_law_base", "_law_shades", "_law_blocks", "_law_other", "_law_at_here", "_law_square", "_law_bad", "_law_others"] (defScope s_bases) 8 "_law_square" = true := by decide +kernel
  have n9 : nmB ["_law_ink_here", "_law_book", "_law_letter", "_law_base", "_law_shades", "_law_blocks", "_law_other", "_law_at_here", "_law_square", "_law_bad", "_law_others"] (defScope s_bases) 9 "_law_bad" = true := by decide +kernel
  have n10 : nmB ["_law_ink_here", "_law_book", "_law_letter", "_law_base", "_law_shades", "_law_blocks", "_law_other", "_law_at_here", "_law_square", "_law_bad", "_law_others"] (defScope s_bases) 10 "_law_others" = true := by decide +kernel
  have l3 : lcB ["_law_ink_here", "_law_book", "_law_letter", "_law_base", "_law_shades", "_law_blocks", "_law_other", "_law_at_here", "_law_square", "_law_bad", "_law_others"] (defScope s_bases) 3 "_law_base" = true := by decide +kernel
  have l4 : lcB ["_law_ink_here", "_law_book", "_law_letter", "_law_base", "_law_shades", "_law_blocks", "_law_other", "_law_at_here", "_law_square", "_law_bad", "_law_others"] (defScope s_bases) 4 "_law_shades" = true := by decide +kernel
  have l5 : lcB ["_law_ink_here", "_law_book", "_law_letter", "_law_base", "_law_shades", "_law_blocks", "_law_other", "_law_at_here", "_law_square", "_law_bad", "_law_others"] (defScope s_bases) 5 "_law_blocks" = true := by decide +kernel
  have l6 : lcB ["_law_ink_here", "_law_book", "_law_letter", "_law_base", "_law_shades", "_law_blocks", "_law_other", "_law_at_here", "_law_square", "_law_bad", "_law_others"] (defScope s_bases) 6 "_law_other" = true := by decide +kernel
  have l7 : lcB ["_law_ink_here", "_law_book", "_law_letter", "_law_base", "_law_shades", "_law_blocks", "_law_other", "_law_at_here", "_law_square", "_law_bad", "_law_others"] (defScope s_bases) 7 "_law_at_here" = true := by decide +kernel
  have l8 : lcB ["_law_ink_here", "_law_book", "_law_letter", "_law_base", "_law_shades", "_law_blocks", "_law_other", "_law_at_here", "_law_square", "_law_bad", "_law_others"] (defScope s_bases) 8 "_law_square" = true := by decide +kernel
  have l9 : lcB ["_law_ink_here", "_law_book", "_law_letter", "_law_base", "_law_shades", "_law_blocks", "_law_other", "_law_at_here", "_law_square", "_law_bad", "_law_others"] (defScope s_bases) 9 "_law_bad" = true := by decide +kernel
  have l10 : lcB ["_law_ink_here", "_law_book", "_law_letter", "_law_base", "_law_shades", "_law_blocks", "_law_other", "_law_at_here", "_law_square", "_law_bad", "_law_others"] (defScope s_bases) 10 "_law_others" = true := by decide +kernel
  have g1 : glB (defScope s_bases) "_law_drip" = true := by decide +kernel
  have g2 : glB (defScope s_bases) "_law_told" = true := by decide +kernel
  have g3 : glB (defScope s_bases) "len" = true := by decide +kernel
  have g4 : glB (defScope s_bases) "int" = true := by decide +kernel
  obtain ⟨t1, t2, t3, t4, t5, t6⟩ := T
  obtain ⟨p, n, b, sh, bl, l, rfl, hI, hn, hB, q⟩ := h
  have e49 : (2 : Nat) ^ 50 = 1125899906842624 := by decide
  have e48' : (2 : Nat) ^ 48 = 281474976710656 := by decide
  have b0 := hB.b0
  have b1 := hB.b1
  have L0 := hB.l0
  have L1 := hB.l1
  have lb := hB.lb
  conv => pattern (defBody _); whnf
  show SSs X G _ [some (.ptr p), some (bookS b sh bl), some (.int l), none, none, none, none, none, none, none, none] M _
  have s0 := Sto.of hI
  refine sb_cons ?_
  refine ss_asg ?_
  walk_at "go"
  refine sg_tup (hc := d.calm) ?_
  refine sgs_cons ?_
  refine dx_tgt d 3 l3 ?_
  refine sgs_cons ?_
  refine dx_tgt d 4 l4 ?_
  refine sgs_cons ?_
  refine dx_tgt d 5 l5 ?_
  refine sgs_nil ?_
  show SSs X G _ [some (.ptr p), some (bookS b sh bl), some (.int l), some (.int b), some (.tup sh), some (.tup bl), none, none, none, none, none] M _
  refine sb_cons ?_
  refine dx_for d (fun _ => rfl) ?_
  refine si_lst ?_
  walk_at "gx"
  refine ro_modI (by decide) ?_
  walk_at "gx"
  refine ro_modI (by decide) ?_
  walk_at "gx"
  refine fun u1 h1 => ?_
  generalize e1 : updM _ u1 _ = M1
  have s1 := s0.gen h1 e1
  refine ⟨u1, _, rfl, s1.at 0 rfl, fun i v' M' => ∃ x6 x7 x8 x9 : Option S, v' = [some (.ptr p), some (bookS b sh bl), some (.int l), some (.int b), some (.tup sh), some (.tup bl), x6, x7, x8, x9, none] ∧ Sto p (n + i) M [(u1, .lst [.int (2 + (b - 1) % 3), .int (2 + b % 3)])] M', ⟨none, none, none, none, rfl, s1⟩, fun i v' M' ⟨_, _, _, _, _, z⟩ => z.at 0 rfl, ?_, ?_⟩
  · rintro i s v' M2 es ⟨x6, x7, x8, x9, rfl, s2⟩
    obtain ⟨o, rfl, hi, o0, o1, ne⟩ : ∃ o : Nat, s = .int o ∧ i ≤ 1 ∧ 2 ≤ o ∧ o ≤ 4 ∧ (o : Int) ≠ b := by
      match i, es with
      | 0, es =>
        cases es
        exact ⟨(2 + (b - 1) % 3).toNat, by congr 1; omega, by omega, by omega, by omega, by omega⟩
      | 1, es =>
        cases es
        exact ⟨(2 + b % 3).toNat, by congr 1; omega, by omega, by omega, by omega, by omega⟩
      | i + 2, es => cases es
    refine dx_tgt d 6 l6 ?_
    show SSs X G _ [some (.ptr p), some (bookS b sh bl), some (.int l), some (.int b), some (.tup sh), some (.tup bl), some (.int o), x7, x8, x9, none] M2 _
    walk_at "go"
    refine ⟨p, _, _, rfl, s2.ink, by omega, by omega, by omega, fun r M3 hr hr' I3 B3 => ?_⟩
    have s3 := s2.drip I3 B3
    show SSs X G _ [some (.ptr p), some (bookS b sh bl), some (.int l), some (.int b), some (.tup sh), some (.tup bl), some (.int o), some (.int r), x8, x9, none] M3 _
    walk_at "go"
    walk_at "gx"
    refine ro_repT (by simp) (by omega) (by omega) (by simp) ?_
    walk_at "gx"
    refine ro_repT (by simp) (by omega) (by omega) (by simp) ?_
    walk_at "gx"
    rw [Int.toNat_natCast]
    generalize hq : (List.replicate o [S.int 0]).flatten = qs
    show SSs X G _ [some (.ptr p), some (bookS b sh bl), some (.int l), some (.int b), some (.tup sh), some (.tup bl), some (.int o), some (.int r), some (.tup [.tup (List.replicate o [S.tup qs]).flatten]), x9, none] M3 _
    obtain ⟨k, rfl⟩ := nat_of hr
    have hz : (sizeLine : Nat) = 16777216 := sizeLine_eq
    refine sb_one ?_
    refine dx_for d (fun _ => rfl) ?_
    refine si_lst ?_
    walk_at "gx"
    refine se_cutT ?_
    walk_at "gx"
    refine .none ?_
    refine .some ?_
    walk_at "gx"
    refine ⟨_, rfl, ?_⟩
    refine ⟨_, rfl, ?_⟩
    rw [cut_to]
    walk_at "gx"
    refine ro_catT ?_ ?_
    · have e : (List.replicate o [S.tup qs]).flatten.length = o := by rw [flat_rep, List.length_replicate]
      rw [List.length_take]; simp only [List.length_cons, List.length_nil]; omega
    refine se_cutT ?_
    walk_at "gx"
    refine .some ?_
    walk_at "gx"
    refine ⟨_, rfl, ?_⟩
    refine .none ?_
    refine ⟨_, rfl, ?_⟩
    have e3 : cutS bl (some ((k : Int) + 1)) none = bl.drop (k + 1) := by
      have z : (k : Int) + 1 = ((k + 1 : Nat) : Int) := by omega
      rw [z]
      exact cut_from bl _
    rw [e3]
    refine ro_catT ?_ ?_
    · have e : (List.replicate o [S.tup qs]).flatten.length = o := by rw [flat_rep, List.length_replicate]
      rw [List.length_append, List.length_take, List.length_drop]; simp only [List.length_cons, List.length_nil]; omega
    walk_at "gx"
    refine fun u4 h4 => ?_
    have ks : ∀ M', Kn M' (.tup [.int o, .tup sh, .tup bl]) := fun M' => Kn.three (.int _) (Kn.shades hB.as) (Kn.blks hB.ab)
    have kq : ∀ M', Kn M' (.tup (List.replicate o [S.tup qs]).flatten) := fun M' => Kn.reps (by rw [← hq]; exact Kn.reps (.int _))
    have kt : ∀ M', Kn M' (.tup [.int b, .tup sh, .tup (bl.take k ++ [.tup (List.replicate o [S.tup qs]).flatten] ++ bl.drop (k + 1))]) := fun M' => by
      refine Kn.three (.int _) (Kn.shades hB.as) (.tup fun s hs => ?_)
      have kb := Kn.blks (M := M') hB.ab
      rcases List.mem_append.mp hs with z | z
      · rcases List.mem_append.mp z with z | z
        · exact kb.ints (List.mem_of_mem_take z)
        · rw [List.mem_singleton.mp z]; exact kq M'
      · exact kb.ints (List.mem_of_mem_drop z)
    have f1 : isBook (.tup [.int o, .tup sh, .tup bl]) = false := bk_other hB ne
    have f2 : isBook (.tup [.int b, .tup sh, .tup (bl.take k ++ [.tup (List.replicate o [S.tup qs]).flatten] ++ bl.drop (k + 1))]) = false := bk_square ne
    generalize bl.take k ++ [.tup (List.replicate o [S.tup qs]).flatten] ++ bl.drop (k + 1) = bl2 at kt f2 ⊢
    generalize e4 : updM _ u4 _ = M4
    have s4 := s3.gen h4 e4
    refine ⟨u4, _, rfl, s4.at 0 rfl, fun j v' M' => ∃ x9 : Option S, v' = [some (.ptr p), some (bookS b sh bl), some (.int l), some (.int b), some (.tup sh), some (.tup bl), some (.int o), some (.int k), some (.tup [.tup (List.replicate o [S.tup qs]).flatten]), x9, none] ∧ Sto p (n + i + 1) M [(u4, .lst [.tup [.int o, .tup sh, .tup bl], .tup [.int b, .tup sh, .tup bl2]]), (u1, .lst [.int (2 + (b - 1) % 3), .int (2 + b % 3)])] M', ⟨_, rfl, s4⟩, fun i v' M' ⟨_, _, z⟩ => z.at 0 rfl, ?_, ?_⟩
    · rintro j bd v' M5 es2 ⟨y9, rfl, s5⟩
      obtain ⟨kb, f⟩ : (∀ M', Kn M' bd) ∧ isBook bd = false ∧ isPic bd = false := by
        match j, es2 with
        | 0, e => cases e; exact ⟨ks, f1, rfl⟩
        | 1, e => cases e; exact ⟨kt, f2, rfl⟩
        | j + 2, e => cases e
      refine dx_tgt d 9 l9 ?_
      show SSs X G _ [some (.ptr p), some (bookS b sh bl), some (.int l), some (.int b), some (.tup sh), some (.tup bl), some (.int o), some (.int k), some (.tup [.tup (List.replicate o [S.tup qs]).flatten]), some bd, none] M5 _
      walk_at "go"
      refine ⟨_, _, _, rfl, kb _, ?_⟩
      rw [told_eq f.1 f.2]
      refine QB.mk ⟨fun c => ?_, fun c => ?_⟩
      · cases c
      walk_at "gx"
      refine ⟨_, _, _, rfl, Kn.two (kb _) (.int l), ?_⟩
      rw [told_eq (b := false) (c := false) (bk2 _ _) (pic2 f.1)]
      refine QB.mk ⟨fun c => ?_, fun c => ?_⟩
      · cases c
      refine sb_nil ?_
      exact ⟨_, rfl, s5⟩
    · rintro v' M5 ⟨y9, rfl, s5⟩
      exact ⟨_, _, _, _, rfl, s5.tail⟩
  · rintro v' M2 ⟨x6, x7, x8, x9, rfl, s2⟩
    walk_at "go"
    refine se_dictC (.str (.str .nil)) (by simp) (by decide) rfl rfl rfl fun u5 o5 h5 => ?_
    generalize e5 : updM _ u5 _ = M5
    have s5 := s2.gen h5 e5
    walk_at "gx"
    refine se_dictC (.str (.str (.str .nil))) (by simp) (by decide) rfl rfl rfl fun u6 o6 h6 => ?_
    generalize e6 : updM _ u6 _ = M6
    have s6 := s5.gen h6 e6
    walk_at "gx"
    refine se_dictC (.int (.int (.int .nil))) (by simp) (by decide) rfl rfl rfl fun u7 o7 h7 => ?_
    generalize e7 : updM _ u7 _ = M7
    have s7 := s6.gen h7 e7
    walk_at "gx"
    refine fun u8 h8 => ?_
    generalize e8 : updM _ u8 _ = M8
    have s8 := s7.gen h8 e8
    walk_at "gx"
    refine se_dict0 fun u9 h9 => ?_
    generalize e9 : updM _ u9 _ = M9
    have s9 := s8.gen h9 e9
    walk_at "gx"
    refine fun u10 h10 => ?_
    generalize e10 : updM _ u10 _ = M10
    have s10 := s9.gen h10 e10
    show SSs X G _ [some (.ptr p), some (bookS b sh bl), some (.int l), some (.int b), some (.tup sh), some (.tup bl), x6, x7, x8, x9, some (.ptr u10)] M10 _
    walk_at "go"
    walk_at "gx"
    refine fun u11 h11 => ?_
    generalize e11 : updM _ u11 _ = M11
    have s11 := s10.gen h11 e11
    walk_at "gx"
    refine fun u12 h12 => ?_
    generalize e12 : updM _ u12 _ = M12
    have s12 := s11.gen h12 e12
    walk_at "gx"
    refine se_dict0 fun u13 h13 => ?_
    generalize e13 : updM _ u13 _ = M13
    have s13 := s12.gen h13 e13
    walk_at "gx"
    refine fun u14 h14 => ?_
    generalize e14 : updM _ u14 _ = M14
    have s14 := s13.gen h14 e14
    walk_at "gx"
    refine fun u15 h15 => ?_
    generalize e15 : updM _ u15 _ = M15
    have s15 := s14.gen h15 e15
    refine ro_catL (s15.at 5 rfl) (s15.at 0 rfl) (by simp only [List.length_cons, List.length_nil, List.length_append]; decide) fun u16 h16 => ?_
    generalize e16 : updM _ u16 _ = M16
    have s16 := s15.gen h16 e16
    show SSs X G _ [some (.ptr p), some (bookS b sh bl), some (.int l), some (.int b), some (.tup sh), some (.tup bl), x6, x7, x8, x9, some (.ptr u16)] M16 _
    have z16 := s16.at 0 rfl
    walk_at "go"
    refine rb_len (its_lst z16) ?_
    walk_at "gt"
    refine ⟨p, _, _, rfl, s16.ink, by simp only [List.length_cons, List.length_nil]; omega, by simp only [List.length_cons, List.length_nil, List.length_append]; decide, by simp only [List.length_cons, List.length_nil, List.length_append]; decide, fun r M17 hr hr' I17 B17 => ?_⟩
    have s17 := s16.drip I17 B17
    refine rx_mem (s17.at 0 rfl) hr hr' fun bd hs => ?_
    have hbd : Kn M17 bd ∧ isBook bd = false ∧ isPic bd = false := by
      clear q
      have ki : ∀ i, Kn M17 (.int i) := fun i => .int i
      have kb : Kn M17 (bookS b sh bl) := hB.kn
      have k5 : Kn M17 (.ptr u5) := s17.kn 11 rfl
      have k6 : Kn M17 (.ptr u6) := s17.kn 10 rfl
      have k7 : Kn M17 (.ptr u7) := s17.kn 9 rfl
      have k8 : Kn M17 (.ptr u8) := s17.kn 8 rfl
      have k9 : Kn M17 (.ptr u9) := s17.kn 7 rfl
      have k12 : Kn M17 (.ptr u12) := s17.kn 4 rfl
      have k13 : Kn M17 (.ptr u13) := s17.kn 3 rfl
      have k14 : Kn M17 (.ptr u14) := s17.kn 2 rfl
      simp only [List.mem_append, List.mem_cons, List.not_mem_nil, or_false] at hs
      rcases hs with (rfl | rfl | rfl | rfl | rfl | rfl | rfl) | rfl | rfl | rfl | rfl | rfl
      · exact ⟨.str _, rfl, rfl⟩
      · exact ⟨.str _, rfl, rfl⟩
      · exact ⟨k5, rfl, rfl⟩
      · exact ⟨k6, rfl, rfl⟩
      · exact ⟨k7, rfl, rfl⟩
      · exact ⟨Kn.two kb k8, rfl, pic_let rfl⟩
      · exact ⟨Kn.two kb k9, rfl, pic_let rfl⟩
      · exact ⟨Kn.two kb k12, rfl, pic_let rfl⟩
      · exact ⟨Kn.two (.str _) (ki _), rfl, pic2 rfl⟩
      · exact ⟨Kn.two k13 (ki _), rfl, pic2 rfl⟩
      · exact ⟨Kn.two k14 (ki _), rfl, pic2 rfl⟩
      · exact ⟨Kn.two kb (.str _), rfl, pic_let rfl⟩
    obtain ⟨kbd, f1, f2⟩ := hbd
    walk_at "gt"
    refine ⟨_, _, _, rfl, kbd, ?_⟩
    rw [told_eq f1 f2]
    exact ⟨_, Sub.refl, q _ (s17.ink.up (by simp only [List.length_cons, List.length_nil]; omega)) s17.gr⟩
end
end Sy

set_option Elab.async false
set_option linter.all false
set_option maxRecDepth 100000
set_option maxHeartbeats 1000000
namespace Sy
open PySem PySem.Spec PyProof.Rows L2
local macro_rules | `(tactic| walk_at "nm") => `(tactic| ((with_reducible refine' dn_name ?d _ ?h ?he ?q); (case d => assumption); (case h => with_reducible assumption); (case he => rfl)))
local macro_rules | `(tactic| walk_at "cn") => `(tactic| first | with_reducible refine se_int ?_ | with_reducible refine se_bl ?_ | with_reducible refine se_non ?_ | with_reducible refine se_str ?_)
local macro_rules | `(tactic| walk_at "ct") => `(tactic| ((with_reducible refine' dn_callT ?d ?m ?v ?g ?n ?db ?st ?pl ?q); (case d => assumption); (case m => with_reducible assumption); (case v => first | with_reducible exact bt_int | with_reducible exact bt_tuple | with_reducible exact bt_list | with_reducible exact bt_str | with_reducible exact bt_bool); (case g => with_reducible assumption); (case n => decide); (case db => decide); (case st => rfl); (case pl => rfl)))
local macro_rules | `(tactic| walk_at "cb") => `(tactic| ((with_reducible refine' dn_callB ?d ?m ?v ?g ?n ?db ?st ?pl ?q); (case d => assumption); (case m => with_reducible assumption); (case v => first | with_reducible exact bf_len | with_reducible exact bf_isinstance | with_reducible exact bf_all | with_reducible exact bf_max | with_reducible exact bf_min | with_reducible exact bf_abs | with_reducible exact bf_sum | with_reducible exact bf_any); (case g => with_reducible assumption); (case n => decide); (case db => decide); (case st => rfl); (case pl => rfl)))
local macro_rules | `(tactic| walk_at "cf") => `(tactic| ((with_reducible refine' dn_call ?d ?F ?g ?k ?db ?st ?pl ?q); (case d => assumption); (case F => with_reducible assumption); (case g => with_reducible assumption); (case k => decide); (case db => decide); (case st => rfl); (case pl => rfl)))
local macro_rules | `(tactic| walk_at "tv") => `(tactic| ((with_reducible refine' dn_ty ?d ?m ?v ?g ?n ?db ?q); (case d => assumption); (case m => with_reducible assumption); (case v => first | with_reducible exact bt_int | with_reducible exact bt_tuple | with_reducible exact bt_list | with_reducible exact bt_str | with_reducible exact bt_bool); (case g => with_reducible assumption); (case n => decide); (case db => decide)))
local macro_rules | `(tactic| walk_at "e") => `(tactic| first | walk_at "nm" | walk_at "cn" | with_reducible refine se_bin ?_ | ((with_reducible refine' se_cmp ?q ?st); (case st => first | exact nomark _ | rfl)) | ((with_reducible refine' se_ix ?q ?st); (case st => exact fun _ _ => rfl)) | with_reducible refine sa_nil ?_ | ((with_reducible refine' sa_cons ?q ?st); (case st => rfl)) | walk_at "cf" | walk_at "cb" | walk_at "ct" | walk_at "tv" | with_reducible refine se_one ?_ | ((with_reducible refine' se_chain ?q ?st); (case st => with_unfolding_all rfl)) | with_reducible refine se_tup ?_ | with_reducible refine se_lst ?_ | with_reducible refine se_and ?_ | with_reducible refine se_or ?_ | with_reducible refine se_not ?_ | with_reducible refine se_un ?_ )
local macro_rules | `(tactic| walk_at "v") => `(tactic| first | with_reducible refine ro_addI ?_ | with_reducible refine ro_subI ?_ | with_reducible refine rc_eqI ?_ | with_reducible refine rc_neI ?_ | with_reducible refine rc_ltI ?_ | with_reducible refine rc_leI ?_ | with_reducible refine rc_gtI ?_ | with_reducible refine rc_geI ?_ | with_reducible refine rb_intI ?_ | with_reducible refine ru_neg ?_ | with_reducible refine rb_tupleT ?_ | ((with_reducible refine rb_isInt ?h ?q); (case h => assumption)) | ((with_reducible refine rb_isBool ?h ?q); (case h => assumption)) | ((with_reducible refine rb_isTup ?h ?q); (case h => assumption)) | with_reducible refine rb_len its_tup ?_ | (refine rx_tup (by rfl) ?_) | ((with_reducible refine' rx_lst ?h ?a ?q); (case h => with_reducible assumption); (case a => rfl)))
local macro_rules | `(tactic| walk_at "ss") => `(tactic| first | with_reducible refine ss_ret (se_fg ?_) | with_reducible refine ss_if ?_ | ((with_reducible refine' ss_expr ?q ?st); (case st => rfl)) | ((with_reducible refine' dx_set ?d _ ?h ?hs ?q); (case d => assumption); (case h => with_reducible assumption); (case hs => rfl)))
local macro_rules | `(tactic| walk_at "s") => `(tactic| first | with_reducible refine sb_one ?_ | with_reducible refine sb_cons ?_ | walk_at "ss")
local macro_rules | `(tactic| walk_at "t") => `(tactic| first | with_reducible refine st_not ?_ | ((with_reducible refine' st_cmp ?q ?st); (case st => first | exact nomark _ | rfl)) | with_reducible refine sw_and1 ?_ | with_reducible refine sw_or1 ?_ | with_reducible refine sw_or ?_ | with_reducible refine sw_and ?_ | ((with_reducible refine' st_chain ?q ?st); (case st => with_unfolding_all rfl)) | (refine st_of ?_; first | with_reducible refine sw_or ?_ | with_reducible refine sw_and ?_) | ((with_reducible refine' st_val ?q ?st); (case st => intro _; rfl)))
local macro_rules | `(tactic| walk_at "go") => `(tactic| repeat (first | walk_at "e" | walk_at "v" | walk_at "s" | walk_at "t"))
local macro_rules | `(tactic| walk_at "gt") => `(tactic| repeat (first | walk_at "e" | walk_at "v" | walk_at "ss" | walk_at "t"))
local macro_rules | `(tactic| walk_at "gx") => `(tactic| repeat (first | walk_at "e" | walk_at "v" | walk_at "ss" | walk_at "t" | refine ⟨by simp only [List.length_cons, List.length_nil]; decide, ?_⟩))
def C_right : Con := fun ss M Q _ => ∃ (p : Addr) (n : Nat), ss = [.ptr p] ∧ Ink M p n ∧ n ≤ 2 ^ 40 ∧ ∀ M', Grow p M M' → Q (.bl true) M'
theorem plain_as (b L : Nat) : (List.replicate L (S.int 3)).all isShade = true := by
  rw [List.all_eq_true]
  intro x hx
  rw [(List.mem_replicate.mp hx).2]; rfl
theorem plain_ab (b L : Nat) (h : 1 ≤ L) : (List.replicate L (S.tup (List.replicate b (.tup (List.replicate b (.int ((L : Int) - 1))))))).all (isBlk b L) = true := by
  rw [List.all_eq_true]
  intro x hx
  rw [(List.mem_replicate.mp hx).2]
  show (decide (((List.replicate b (S.tup (List.replicate b (.int ((L : Int) - 1))))).length : Int) = b) && (List.replicate b (S.tup (List.replicate b (.int ((L : Int) - 1))))).all (isRow b L)) = true
  rw [List.length_replicate, Bool.and_eq_true, List.all_eq_true]
  refine ⟨by simp, fun y hy => ?_⟩
  rw [(List.mem_replicate.mp hy).2]
  show (decide (((List.replicate b (S.int ((L : Int) - 1))).length : Int) = b) && (List.replicate b (S.int ((L : Int) - 1))).all (isLet L)) = true
  rw [List.length_replicate, Bool.and_eq_true, List.all_eq_true]
  refine ⟨by simp, fun z hz => ?_⟩
  rw [(List.mem_replicate.mp hz).2]
  show (decide (0 ≤ (L : Int) - 1) && decide ((L : Int) - 1 < (L : Int))) = true
  rw [Bool.and_eq_true, decide_eq_true_eq, decide_eq_true_eq]; omega
theorem plain_kn (M : Mem) (b L : Nat) (h : 1 ≤ L) : Kn M (plainS b L) := Kn.three (.int _) (Kn.shades (plain_as b L)) (Kn.blks (plain_ab b L h))
theorem plain_ok (b : Nat) (h0 : 2 ≤ b) (h1 : b ≤ 4) : BookOk b (List.replicate 64 (S.int 3)) (List.replicate 64 (S.tup (List.replicate b (.tup (List.replicate b (.int (((64 : Nat) : Int) - 1))))))) :=
  ⟨by omega, by omega, by rw [List.length_replicate]; decide, by rw [List.length_replicate]; decide, by rw [List.length_replicate, List.length_replicate], plain_as b 64, by rw [List.length_replicate]; exact plain_ab b 64 (by decide)⟩
theorem plain_no (b : Nat) : isBook (plainS b 65) = false := by
  unfold plainS
  rw [bk_def]
  have e : decide ((items (S.tup (List.replicate 65 (S.int 3)))).length ≤ 64) = false := rfl
  rw [e]; simp
section
variable {P : Program} {w : World} {K : PySem.W.Frag} {mg : Str → Option Value} {base : Heap}
theorem sc_right : FnScope ["_law_ink_here", "_law_base", "_law_letters", "_law_book", "_law_letter", "_law_turn", "_law_most", "_law_long"] ["_law_ink_here"] (defScope s_right) := ⟨rfl, rfl, rfl, by decide +kernel, rfl, by decide +kernel, by decide +kernel⟩
theorem ok_right {f : Addr} {fd : FuncData} (F : Fun K "_law_right" "_law_right" s_right f fd) (T : Txt mg) (T4 : mg "range" = none) (F_drip : Fn P w K mg base "_law_drip" 1 C_drip) (F_told : Fn P w K mg base "_law_told" 6 C_told) (F_wide : Fn P w K mg base "_law_wide" 2 C_wide)
    (F_spoilt : Fn P w K mg base "_law_spoilt_right" 7 C_spoilt) (F_others : Fn P w K mg base "_law_others_right" 7 C_others) (F_pictures : Fn P w K mg base "_law_pictures_right" 7 C_spoilt) (F_plain : Fn P w K mg base "_law_plain" 1 C_plain) (F_bases : Fn P w K mg base "_law_bases_right" 7 C_spoilt)
    (F_bookK : FnK P w K mg base "is_book" 4 ["value"] C_is_book) (F_picK : FnK P w K mg base "is_picture" 5 ["value"] C_is_picture) : FnOk P w K mg base (L2.CX P w) 8 f fd ["_law_ink_here"] (SpC K C_right) := by
  refine def_ok F sc_right (fun ss M Q E h => ?_) (fun X G eP ew eK em eb d ss M Q E h wi => ?_)
  · obtain ⟨p, n, rfl, _⟩ := h; rfl
  subst eP ew eK em eb
  have dn := d.dn
  have n0 : nmB ["_law_ink_here", "_law_base", "_law_letters", "_law_book", "_law_letter", "_law_turn", "_law_most", "_law_long"] (defScope s_right) 0 "_law_ink_here" = true := by decide +kernel
  have n1 : nmB ["_law_ink_here", "_law_base", "_law_letters", "_law_book", "_law_letter", "_law_turn", "_law_most", "_law_long"] (defScope s_right) 1 "_law_base" = true := by decide +kernel
  have n2 : nmB ["_law_ink_here", "_law_base", "_law_letters", "_law_book", "_law_letter", "_law_turn", "_law_most", "_law_long"] (defScope s_right) 2 "_law_letters" = true := by decide +kernel
  have n3 : nmB ["_law_ink_here", "_law_base", "_law_letters", "_law_book", "_law_letter", "_law_turn", "_law_most", "_law_long"] (defScope s_right) 3 "_law_book" = true := by decide +kernel
  have n4 : nmB ["_law_ink_here", "_law_base", "_law_letters", "_law_book", "_law_letter", "_law_turn", "_law_most", "_law_long"] (defScope s_right) 4 "_law_letter" = true := by decide +kernel
  have n5 : nmB ["_law_ink_here", "_law_base", "_law_letters", "_law_book", "_law_letter", "_law_turn", "_law_most", "_law_long"] (defScope s_right) 5 "_law_turn" = true := by decide +kernel
  have n6 : nmB ["_law_ink_here", "_law_base", "_law_letters", "_law_book", "_law_letter", "_law_turn", "_law_most", "_law_long"] (defScope s_right) 6 "_law_most" = true := by decide +kernel
  have n7 : nmB ["_law_ink_here", "_law_base", "_law_letters", "_law_book", "_law_letter", "_law_turn", "_law_most", "_law_long"] (defScope s_right) 7 "_law_long" = true := by decide +kernel
  have l1 : lcB ["_law_ink_here", "_law_base", "_law_letters", "_law_book", "_law_letter", "_law_turn", "_law_most", "_law_long"] (defScope s_right) 1 "_law_base" = true := by decide +kernel
  have l2 : lcB ["_law_ink_here", "_law_base", "_law_letters", "_law_book", "_law_letter", "_law_turn", "_law_most", "_law_long"] (defScope s_right) 2 "_law_letters" = true := by decide +kernel
  have l3 : lcB ["_law_ink_here", "_law_base", "_law_letters", "_law_book", "_law_letter", "_law_turn", "_law_most", "_law_long"] (defScope s_right) 3 "_law_book" = true := by decide +kernel
  have l4 : lcB ["_law_ink_here", "_law_base", "_law_letters", "_law_book", "_law_letter", "_law_turn", "_law_most", "_law_long"] (defScope s_right) 4 "_law_letter" = true := by decide +kernel
  have l5 : lcB ["_law_ink_here", "_law_base", "_law_letters", "_law_book", "_law_letter", "_law_turn", "_law_most", "_law_long"] (defScope s_right) 5 "_law_turn" = true := by decide +kernel
  have l6 : lcB ["_law_ink_here", "_law_base", "_law_letters", "_law_book", "_law_letter", "_law_turn", "_law_most", "_law_long"] (defScope s_right) 6 "_law_most" = true := by decide +kernel
  have l7 : lcB ["_law_ink_here", "_law_base", "_law_letters", "_law_book", "_law_letter", "_law_turn", "_law_most", "_law_long"] (defScope s_right) 7 "_law_long" = true := by decide +kernel
  have g1 : glB (defScope s_right) "_law_drip" = true := by decide +kernel
  have g2 : glB (defScope s_right) "_law_wide" = true := by decide +kernel
  have g3 : glB (defScope s_right) "_law_spoilt_right" = true := by decide +kernel
  have g4 : glB (defScope s_right) "_law_others_right" = true := by decide +kernel
  have g5 : glB (defScope s_right) "_law_told" = true := by decide +kernel
  have g6 : glB (defScope s_right) "_law_pictures_right" = true := by decide +kernel
  have g7 : glB (defScope s_right) "_law_plain" = true := by decide +kernel
  have g8 : glB (defScope s_right) "is_book" = true := by decide +kernel
  have g9 : glB (defScope s_right) "is_picture" = true := by decide +kernel
  have g10 : glB (defScope s_right) "_law_bases_right" = true := by decide +kernel
  have g11 : glB (defScope s_right) "range" = true := by decide +kernel
  obtain ⟨t1, t2, t3, t4, t5, t6⟩ := T
  obtain ⟨p, n, rfl, hI, hn, q⟩ := h
  have e49 : (2 : Nat) ^ 50 = 1125899906842624 := by decide
  have e49' : (2 : Nat) ^ 49 = 562949953421312 := by decide
  have e48' : (2 : Nat) ^ 48 = 281474976710656 := by decide
  have e40' : (2 : Nat) ^ 40 = 1099511627776 := by decide
  conv => pattern (defBody _); whnf
  show SSs X G _ [some (.ptr p), none, none, none, none, none, none, none] M _
  walk_at "go"
  refine ⟨p, _, _, rfl, hI, by omega, by decide, by decide, fun r0 M0 h0 h0' I0 B0 => ?_⟩
  have s0 := (Sto.of hI).drip I0 B0
  walk_at "gt"
  show SSs X G _ [some (.ptr p), some (.int (2 + r0)), none, none, none, none, none, none] M0 _
  obtain ⟨bn, eb, bn0, bn1⟩ : ∃ bn : Nat, 2 + r0 = (bn : Int) ∧ 2 ≤ bn ∧ bn ≤ 4 := ⟨(2 + r0).toNat, by omega, by omega, by omega⟩
  rw [eb]
  walk_at "go"
  refine ⟨p, _, _, rfl, s0.ink, by omega, by decide, by decide, fun r1 M1 h1 h1' I1 B1 => ?_⟩
  have s1 := s0.drip I1 B1
  walk_at "gx"
  refine ⟨p, _, _, rfl, s1.ink, by omega, by decide, by decide, fun r2 M2 h2 h2' I2 B2 => ?_⟩
  have s2 := s1.drip I2 B2
  walk_at "gx"
  refine ⟨p, _, _, rfl, s2.ink, by omega, by decide, by decide, fun r3 M3 h3 h3' I3 B3 => ?_⟩
  have s3 := s2.drip I3 B3
  walk_at "gx"
  refine fun u4 h4 => ?_
  generalize e4 : updM _ u4 _ = M4
  have s4 := s3.gen h4 e4
  walk_at "gx"
  refine ⟨p, _, _, rfl, s4.ink, by omega, by decide, by decide, fun r5 M5 h5 h5' I5 B5 => ?_⟩
  have s5 := s4.drip I5 B5
  refine rx_mem (s5.at 0 rfl) h5 h5' fun st hs => ?_
  obtain ⟨L, rfl, L0, L1⟩ : ∃ L : Nat, st = .int L ∧ 1 ≤ L ∧ L ≤ 64 := by
    simp only [List.mem_cons, List.not_mem_nil, or_false] at hs
    rcases hs with rfl | rfl | rfl | rfl
    · exact ⟨(1 + r1).toNat, by congr 1; omega, by omega, by omega⟩
    · exact ⟨(1 + r2).toNat, by congr 1; omega, by omega, by omega⟩
    · exact ⟨(9 + r3).toNat, by congr 1; omega, by omega, by omega⟩
    · exact ⟨64, rfl, by omega, by omega⟩
  show SSs X G _ [some (.ptr p), some (.int bn), some (.int L), none, none, none, none, none] M5 _
  walk_at "go"
  refine ⟨p, _, bn, L, rfl, s5.ink, by omega, by omega, by omega, L0, L1, fun sh bl M6 hW I6 G6 => ?_⟩
  have s6 := s5.grow I6 G6
  obtain ⟨w1, w2, w3, w4⟩ := hW
  have hB : BookOk bn sh bl := ⟨by omega, by omega, by omega, by omega, by omega, w3, by rw [w1]; exact w4⟩
  show SSs X G _ [some (.ptr p), some (.int bn), some (.int L), some (bookS bn sh bl), none, none, none, none] M6 _
  walk_at "go"
  refine ⟨p, _, _, rfl, s6.ink, by omega, by omega, by omega, fun r7 M7 h7 h7' I7 B7 => ?_⟩
  have s7 := s6.drip I7 B7
  walk_at "gx"
  refine fun u8 h8 => ?_
  generalize e8 : updM _ u8 _ = M8
  have s8 := s7.gen h8 e8
  walk_at "gx"
  refine ⟨p, _, _, rfl, s8.ink, by omega, by decide, by decide, fun r9 M9 h9 h9' I9 B9 => ?_⟩
  have s9 := s8.drip I9 B9
  refine rx_mem (s9.at 0 rfl) h9 h9' fun st hs => ?_
  obtain ⟨l, rfl, l0', l1'⟩ : ∃ l : Int, st = .int l ∧ 0 ≤ l ∧ l < L := by
    simp only [List.mem_cons, List.not_mem_nil, or_false] at hs
    rcases hs with rfl | rfl | rfl
    · exact ⟨_, rfl, by omega, by omega⟩
    · exact ⟨_, rfl, by omega, by omega⟩
    · exact ⟨_, rfl, by omega, by omega⟩
  have hl1 : l < sh.length := by omega
  have kb : ∀ M', Kn M' (bookS bn sh bl) := fun M' => hB.kn
  have hpic := hB.pic l0' hl1
  have hbk := hB.is
  show SSs X G _ [some (.ptr p), some (.int bn), some (.int L), some (bookS bn sh bl), some (.int l), none, none, none] M9 _
  refine sb_cons ?_
  refine dx_for d (fun _ => rfl) ?_
  refine si_range1 (gl_of dn g11) T4 ?_
  walk_at "go"
  refine ⟨_, rfl, by omega, by omega, ?_⟩
  refine ⟨fun i v' M' => ∃ x5 : Option S, v' = [some (.ptr p), some (.int bn), some (.int L), some (bookS bn sh bl), some (.int l), x5, none, none] ∧ i ≤ 6 ∧ Sto p (n + 3000 + 100 * i) M [] M', ⟨none, rfl, by omega, ⟨s9.ink.up (by omega), s9.gr, fun c hc => nomatch hc⟩⟩, fun _ _ _ _ => True.intro, ?_, ?_⟩
  · rintro i s v' M10 es ⟨x5, rfl, hi6, s10⟩
    obtain ⟨hi, rfl⟩ := rgS_get es
    have hi' : i < 6 := hi
    refine dx_tgt d 5 l5 ?_
    show SSs X G _ [some (.ptr p), some (.int bn), some (.int L), some (bookS bn sh bl), some (.int l), some (.int (0 + i)), none, none] M10 _
    walk_at "go"
    refine ⟨p, _, _, sh, bl, l, rfl, s10.ink, by omega, hB, fun M11 I11 G11 => ?_⟩
    have s11 := s10.grow I11 G11
    refine QB.mk ⟨fun c => ?_, fun c => ?_⟩
    · cases c
    walk_at "gx"
    refine ⟨p, _, rfl, s11.ink, by omega, fun M12 I12 G12 => ?_⟩
    have s12 := s11.grow I12 G12
    refine QB.mk ⟨fun c => ?_, fun c => ?_⟩
    · cases c
    refine sb_nil ?_
    walk_at "go"
    refine ⟨_, _, _, rfl, kb _, ?_⟩
    rw [told_eq (b := true) (c := false) hbk (pic3 _ _ _)]
    refine QB.mk ⟨fun c => ?_, fun c => ?_⟩
    · cases c
    walk_at "gx"
    refine ⟨_, _, _, rfl, Kn.two (kb _) (.int l), ?_⟩
    rw [told_eq (b := false) (c := true) (bk2 _ _) hpic]
    refine QB.mk ⟨fun c => ?_, fun c => ?_⟩
    · cases c
    refine sb_nil ?_
    walk_at "go"
    refine ⟨p, _, _, sh, bl, l, rfl, s12.ink, by omega, hB, fun M13 I13 G13 => ?_⟩
    have s13 := s12.grow I13 G13
    refine QB.mk ⟨fun c => ?_, fun c => ?_⟩
    · cases c
    refine sb_nil ?_
    exact ⟨_, rfl, by omega, ⟨s13.ink.up (by omega), s13.gr, s13.has⟩⟩
  · rintro v' M10 ⟨x5, rfl, hi6, s10⟩
    have s10 : Sto p (n + 4000) M [] M10 := ⟨s10.ink.up (by rw [rgS_len]; show n + 3000 + 100 * 6 ≤ _; omega), s10.gr, s10.has⟩
    refine sb_cons ?_
    refine dx_par d 6 7 (by decide +kernel) (by decide +kernel) (by decide) (by unfold swappedStores; simp only [Env.blockKind, Env.kindOf, d.sc]; rfl) rfl ?_
    walk_at "gx"
    refine ⟨bn, 64, rfl, bn0, bn1, by decide, by decide, ?_⟩
    walk_at "gx"
    refine ⟨bn, 65, rfl, bn0, bn1, by decide, by decide, ?_⟩
    walk_at "gx"
    refine ⟨_, _, rfl, ?_⟩
    show SSs X G _ [some (.ptr p), some (.int bn), some (.int L), some (bookS bn sh bl), some (.int l), x5, some (plainS bn 64), some (plainS bn 65)] M10 _
    have hP := plain_ok bn bn0 bn1
    have p1 : isBook (plainS bn 64) = true := hP.is
    have p2 : isPic (.tup [plainS bn 64, .int 63]) = true := hP.pic (by decide) (by rw [List.length_replicate]; decide)
    have p3 : isBook (plainS bn 65) = false := plain_no bn
    have p4 : isPic (plainS bn 64) = false := pic3 _ _ _
    have p5 : isPic (plainS bn 65) = false := pic3 _ _ _
    have y1 : ∀ M', Kn M' (plainS bn 64) := fun M' => plain_kn M' bn 64 (by decide)
    have y2 : ∀ M', Kn M' (plainS bn 65) := fun M' => plain_kn M' bn 65 (by decide)
    generalize plainS bn 64 = ps at p1 p2 p4 y1 ⊢
    generalize plainS bn 65 = pl at p3 p5 y2 ⊢
    walk_at "go"
    refine ⟨_, _, _, rfl, y1 _, ?_⟩
    rw [told_eq p1 p4]
    refine QB.mk ⟨fun c => ?_, fun c => ?_⟩
    · cases c
    walk_at "gx"
    refine ⟨_, _, _, rfl, Kn.two (y1 _) (.int _), ?_⟩
    rw [told_eq (b := false) (c := true) (bk2 _ _) p2]
    refine QB.mk ⟨fun c => ?_, fun c => ?_⟩
    · cases c
    refine sb_nil ?_
    walk_at "go"
    refine ⟨_, _, _, rfl, y2 _, ?_⟩
    rw [told_eq p3 p5]
    refine QB.mk ⟨fun c => ?_, fun c => ?_⟩
    · cases c
    walk_at "gx"
    refine ⟨_, _, _, rfl, Kn.two (y2 _) (.int _), ?_⟩
    rw [told_eq (b := false) (c := false) (bk2 _ _) (pic2 p3)]
    refine QB.mk ⟨fun c => ?_, fun c => ?_⟩
    · cases c
    refine sb_nil ?_
    -- by keywords
    walk_at "go"
    refine dn_kw dn F_bookK g8 (by decide) (by decide) rfl rfl rfl ?_
    refine sk_cons ?_
    walk_at "gx"
    refine sk_nil ?_
    refine ⟨_, rfl, kb _, ?_⟩
    rw [hbk]
    walk_at "gx"
    refine rc_notB ?_
    refine QB.mk ⟨fun c => ?_, fun c => ?_⟩
    · cases c
    walk_at "gx"
    refine dn_kw dn F_picK g9 (by decide) (by decide) rfl rfl rfl ?_
    refine sk_cons ?_
    walk_at "gx"
    refine sk_nil ?_
    refine ⟨_, rfl, Kn.two (kb _) (.int l), ?_⟩
    rw [hpic]
    walk_at "gx"
    refine rc_notB ?_
    refine QB.mk ⟨fun c => ?_, fun c => ?_⟩
    · cases c
    refine sb_nil ?_
    walk_at "go"
    refine ⟨p, _, _, sh, bl, l, rfl, s10.ink, by omega, hB, fun M11 I11 G11 => ?_⟩
    have s11 := s10.grow I11 G11
    refine ⟨_, rfl, fun _ => ?_, fun c => nomatch c⟩
    walk_at "gx"
    refine ⟨p, _, _, sh, bl, l, rfl, s11.ink, by omega, hB, fun M12 I12 G12 => ?_⟩
    exact ⟨_, Sub.refl, q _ (s11.gr.trans G12)⟩
end
end Sy

set_option Elab.async false
set_option linter.all false
set_option maxRecDepth 100000
set_option maxHeartbeats 1000000
namespace Sy
open PySem PySem.Spec PyProof.Rows L2
local macro_rules | `(tactic| walk_at "nm") => `(tactic| ((with_reducible refine' dn_name ?d _ ?h ?he ?q); (case d => assumption); (case h => with_reducible assumption); (case he => rfl)))
local macro_rules | `(tactic| walk_at "cn") => `(tactic| first | with_reducible refine se_int ?_ | with_reducible refine se_bl ?_ | with_reducible refine se_non ?_ | with_reducible refine se_str ?_)
local macro_rules | `(tactic| walk_at "ct") => `(tactic| ((with_reducible refine' dn_callT ?d ?m ?v ?g ?n ?db ?st ?pl ?q); (case d => assumption); (case m => with_reducible assumption); (case v => first | with_reducible exact bt_int | with_reducible exact bt_tuple | with_reducible exact bt_list | with_reducible exact bt_str | with_reducible exact bt_bool); (case g => with_reducible assumption); (case n => decide); (case db => decide); (case st => rfl); (case pl => rfl)))
local macro_rules | `(tactic| walk_at "cb") => `(tactic| ((with_reducible refine' dn_callB ?d ?m ?v ?g ?n ?db ?st ?pl ?q); (case d => assumption); (case m => with_reducible assumption); (case v => first | with_reducible exact bf_len | with_reducible exact bf_isinstance | with_reducible exact bf_all | with_reducible exact bf_max | with_reducible exact bf_min | with_reducible exact bf_abs | with_reducible exact bf_sum | with_reducible exact bf_any); (case g => with_reducible assumption); (case n => decide); (case db => decide); (case st => rfl); (case pl => rfl)))
local macro_rules | `(tactic| walk_at "cf") => `(tactic| ((with_reducible refine' dn_call ?d ?F ?g ?k ?db ?st ?pl ?q); (case d => assumption); (case F => with_reducible assumption); (case g => with_reducible assumption); (case k => decide); (case db => decide); (case st => rfl); (case pl => rfl)))
local macro_rules | `(tactic| walk_at "tv") => `(tactic| ((with_reducible refine' dn_ty ?d ?m ?v ?g ?n ?db ?q); (case d => assumption); (case m => with_reducible assumption); (case v => first | with_reducible exact bt_int | with_reducible exact bt_tuple | with_reducible exact bt_list | with_reducible exact bt_str | with_reducible exact bt_bool); (case g => with_reducible assumption); (case n => decide); (case db => decide)))
local macro_rules | `(tactic| walk_at "e") => `(tactic| first | walk_at "nm" | walk_at "cn" | with_reducible refine se_bin ?_ | ((with_reducible refine' se_cmp ?q ?st); (case st => first | exact nomark _ | rfl)) | ((with_reducible refine' se_ix ?q ?st); (case st => exact fun _ _ => rfl)) | with_reducible refine sa_nil ?_ | ((with_reducible refine' sa_cons ?q ?st); (case st => rfl)) | walk_at "cf" | walk_at "cb" | walk_at "ct" | walk_at "tv" | with_reducible refine se_one ?_ | ((with_reducible refine' se_chain ?q ?st); (case st => with_unfolding_all rfl)) | with_reducible refine se_tup ?_ | with_reducible refine se_lst ?_ | with_reducible refine se_and ?_ | with_reducible refine se_or ?_ | with_reducible refine se_not ?_ | with_reducible refine se_un ?_ )
local macro_rules | `(tactic| walk_at "v") => `(tactic| first | with_reducible refine ro_addI ?_ | with_reducible refine ro_subI ?_ | with_reducible refine rc_eqI ?_ | with_reducible refine rc_neI ?_ | with_reducible refine rc_ltI ?_ | with_reducible refine rc_leI ?_ | with_reducible refine rc_gtI ?_ | with_reducible refine rc_geI ?_ | with_reducible refine rb_intI ?_ | with_reducible refine ru_neg ?_ | with_reducible refine rb_tupleT ?_ | ((with_reducible refine rb_isInt ?h ?q); (case h => assumption)) | ((with_reducible refine rb_isBool ?h ?q); (case h => assumption)) | ((with_reducible refine rb_isTup ?h ?q); (case h => assumption)) | with_reducible refine rb_len its_tup ?_ | (refine rx_tup (by rfl) ?_) | ((with_reducible refine' rx_lst ?h ?a ?q); (case h => with_reducible assumption); (case a => rfl)))
local macro_rules | `(tactic| walk_at "ss") => `(tactic| first | with_reducible refine ss_ret (se_fg ?_) | with_reducible refine ss_if ?_ | ((with_reducible refine' ss_expr ?q ?st); (case st => rfl)) | ((with_reducible refine' dx_set ?d _ ?h ?hs ?q); (case d => assumption); (case h => with_reducible assumption); (case hs => rfl)))
local macro_rules | `(tactic| walk_at "s") => `(tactic| first | with_reducible refine sb_one ?_ | with_reducible refine sb_cons ?_ | walk_at "ss")
local macro_rules | `(tactic| walk_at "t") => `(tactic| first | with_reducible refine st_not ?_ | ((with_reducible refine' st_cmp ?q ?st); (case st => first | exact nomark _ | rfl)) | with_reducible refine sw_and1 ?_ | with_reducible refine sw_or1 ?_ | with_reducible refine sw_or ?_ | with_reducible refine sw_and ?_ | ((with_reducible refine' st_chain ?q ?st); (case st => with_unfolding_all rfl)) | (refine st_of ?_; first | with_reducible refine sw_or ?_ | with_reducible refine sw_and ?_) | ((with_reducible refine' st_val ?q ?st); (case st => intro _; rfl)))
local macro_rules | `(tactic| walk_at "go") => `(tactic| repeat (first | walk_at "e" | walk_at "v" | walk_at "s" | walk_at "t"))
local macro_rules | `(tactic| walk_at "gt") => `(tactic| repeat (first | walk_at "e" | walk_at "v" | walk_at "ss" | walk_at "t"))
local macro_rules | `(tactic| walk_at "gx") => `(tactic| repeat (first | walk_at "e" | walk_at "v" | walk_at "ss" | walk_at "t" | refine ⟨by simp only [List.length_cons, List.length_nil]; decide, ?_⟩))
def C_law : Con := fun ss M Q _ => ∃ (ns : List Int), ss = [.rdl (ns.map S.int)] ∧ ns.length ≤ 63 ∧ (∀ n, n ∈ ns → n.natAbs < 2 ^ scB) ∧ ∀ M', Q (.bl true) M'
section
variable {P : Program} {w : World} {K : PySem.W.Frag} {mg : Str → Option Value} {base : Heap}
theorem sc_law : FnScope ["_law_script", "_law_k"] ["_law_script"] (defScope s_law) := ⟨rfl, rfl, rfl, by decide +kernel, rfl, by decide +kernel, by decide +kernel⟩
theorem ok_law {f : Addr} {fd : FuncData} (F : Fun K "law" "law" s_law f fd) (T : Txt mg) (T4 : mg "range" = none) (T2 : mg "sum" = none ∧ mg "max" = none ∧ mg "abs" = none) (T5 : mg "min" = none) (F_ink : Fn P w K mg base "_law_ink" 1 C_ink) (F_right : Fn P w K mg base "_law_right" 8 C_right) : FnOk P w K mg base (L2.CX P w) 9 f fd ["_law_script"] (SpC K C_law) := by
  refine def_ok F sc_law (fun ss M Q E h => ?_) (fun X G eP ew eK em eb d ss M Q E h wi => ?_)
  · obtain ⟨ns, rfl, _⟩ := h; rfl
  subst eP ew eK em eb
  have dn := d.dn
  have n0 : nmB ["_law_script", "_law_k"] (defScope s_law) 0 "_law_script" = true := by decide +kernel
  have n1 : nmB ["_law_script", "_law_k"] (defScope s_law) 1 "_law_k" = true := by decide +kernel
  have l1 : lcB ["_law_script", "_law_k"] (defScope s_law) 1 "_law_k" = true := by decide +kernel
  have g1 : glB (defScope s_law) "_law_ink" = true := by decide +kernel
  have g2 : glB (defScope s_law) "_law_right" = true := by decide +kernel
  have g3 : glB (defScope s_law) "max" = true := by decide +kernel
  have g4 : glB (defScope s_law) "min" = true := by decide +kernel
  have g5 : glB (defScope s_law) "len" = true := by decide +kernel
  have g6 : glB (defScope s_law) "range" = true := by decide +kernel
  obtain ⟨t1, t2, t3, t4, t5, t6⟩ := T
  obtain ⟨t7, t8, t9⟩ := T2
  obtain ⟨ns, rfl, hl, hb, q⟩ := h
  conv => pattern (defBody _); whnf
  show SSs X G _ [some (.rdl (ns.map S.int)), none] M _
  refine sb_cons ?_
  refine dx_for d (fun _ => rfl) ?_
  refine si_range1 (gl_of dn g6) T4 ?_
  walk_at "go"
  refine rb_len its_rdl ?_
  walk_at "go"
  refine rb_min ?_ d.calm
  walk_at "go"
  refine rb_max ?_ d.calm
  rw [List.length_map]
  have em : (if (ns.length : Int) < 5 then (ns.length : Int) else 5) ≤ 5 := by split <;> omega
  generalize (if (ns.length : Int) < 5 then (ns.length : Int) else 5) = m at em ⊢
  have em2 : (if m > 1 then m else 1) ≤ 5 := by split <;> omega
  have em3 : 1 ≤ (if m > 1 then m else 1) := by split <;> omega
  generalize (if m > 1 then m else 1) = m2 at em2 em3 ⊢
  refine ⟨_, rfl, by omega, by omega, ?_⟩
  refine ⟨fun i v' M' => ∃ x1 : Option S, v' = [some (.rdl (ns.map S.int)), x1], ⟨none, rfl⟩, fun _ _ _ _ => True.intro, ?_, ?_⟩
  · rintro i s v' M1 es ⟨x1, rfl⟩
    obtain ⟨hi, rfl⟩ := rgS_get es
    refine dx_tgt d 1 l1 ?_
    show SSs X G _ [some (.rdl (ns.map S.int)), some (.int (0 + i))] M1 _
    walk_at "go"
    refine ⟨ns, _, rfl, by omega, by omega, hl, hb, fun p M2 hp I2 B2 => ?_⟩
    walk_at "gx"
    refine ⟨p, 0, rfl, I2, Nat.zero_le _, fun M3 G3 => ?_⟩
    refine QB.mk ⟨fun c => ?_, fun c => ?_⟩
    · cases c
    refine sb_nil ?_
    exact ⟨_, rfl⟩
  · rintro v' M1 ⟨x1, rfl⟩
    walk_at "go"
    exact ⟨_, Sub.refl, q _⟩
end
end Sy

set_option Elab.async false
set_option linter.all false
set_option maxRecDepth 100000
set_option maxHeartbeats 1000000
namespace Sy
open PySem PySem.Spec PyProof.Rows L2
local macro_rules | `(tactic| walk_at "nm") => `(tactic| ((with_reducible refine' dn_name ?d _ ?h ?he ?q); (case d => assumption); (case h => with_reducible assumption); (case he => rfl)))
local macro_rules | `(tactic| walk_at "cn") => `(tactic| first | with_reducible refine se_int ?_ | with_reducible refine se_bl ?_ | with_reducible refine se_non ?_ | with_reducible refine se_str ?_)
local macro_rules | `(tactic| walk_at "ct") => `(tactic| ((with_reducible refine' dn_callT ?d ?m ?v ?g ?n ?db ?st ?pl ?q); (case d => assumption); (case m => with_reducible assumption); (case v => first | with_reducible exact bt_int | with_reducible exact bt_tuple | with_reducible exact bt_list | with_reducible exact bt_str | with_reducible exact bt_bool); (case g => with_reducible assumption); (case n => decide); (case db => decide); (case st => rfl); (case pl => rfl)))
local macro_rules | `(tactic| walk_at "cb") => `(tactic| ((with_reducible refine' dn_callB ?d ?m ?v ?g ?n ?db ?st ?pl ?q); (case d => assumption); (case m => with_reducible assumption); (case v => first | with_reducible exact bf_len | with_reducible exact bf_isinstance | with_reducible exact bf_all | with_reducible exact bf_max | with_reducible exact bf_min | with_reducible exact bf_abs | with_reducible exact bf_sum | with_reducible exact bf_any); (case g => with_reducible assumption); (case n => decide); (case db => decide); (case st => rfl); (case pl => rfl)))
local macro_rules | `(tactic| walk_at "cf") => `(tactic| ((with_reducible refine' dn_call ?d ?F ?g ?k ?db ?st ?pl ?q); (case d => assumption); (case F => with_reducible assumption); (case g => with_reducible assumption); (case k => decide); (case db => decide); (case st => rfl); (case pl => rfl)))
local macro_rules | `(tactic| walk_at "tv") => `(tactic| ((with_reducible refine' dn_ty ?d ?m ?v ?g ?n ?db ?q); (case d => assumption); (case m => with_reducible assumption); (case v => first | with_reducible exact bt_int | with_reducible exact bt_tuple | with_reducible exact bt_list | with_reducible exact bt_str | with_reducible exact bt_bool); (case g => with_reducible assumption); (case n => decide); (case db => decide)))
local macro_rules | `(tactic| walk_at "e") => `(tactic| first | walk_at "nm" | walk_at "cn" | with_reducible refine se_bin ?_ | ((with_reducible refine' se_cmp ?q ?st); (case st => first | exact nomark _ | rfl)) | ((with_reducible refine' se_ix ?q ?st); (case st => exact fun _ _ => rfl)) | with_reducible refine sa_nil ?_ | ((with_reducible refine' sa_cons ?q ?st); (case st => rfl)) | walk_at "cf" | walk_at "cb" | walk_at "ct" | walk_at "tv" | with_reducible refine se_one ?_ | ((with_reducible refine' se_chain ?q ?st); (case st => with_unfolding_all rfl)) | with_reducible refine se_tup ?_ | with_reducible refine se_lst ?_ | with_reducible refine se_and ?_ | with_reducible refine se_or ?_ | with_reducible refine se_not ?_ | with_reducible refine se_un ?_ )
local macro_rules | `(tactic| walk_at "v") => `(tactic| first | with_reducible refine ro_addI ?_ | with_reducible refine ro_subI ?_ | with_reducible refine rc_eqI ?_ | with_reducible refine rc_neI ?_ | with_reducible refine rc_ltI ?_ | with_reducible refine rc_leI ?_ | with_reducible refine rc_gtI ?_ | with_reducible refine rc_geI ?_ | with_reducible refine rb_intI ?_ | with_reducible refine ru_neg ?_ | with_reducible refine rb_tupleT ?_ | ((with_reducible refine rb_isInt ?h ?q); (case h => assumption)) | ((with_reducible refine rb_isBool ?h ?q); (case h => assumption)) | ((with_reducible refine rb_isTup ?h ?q); (case h => assumption)) | with_reducible refine rb_len its_tup ?_ | (refine rx_tup (by rfl) ?_) | ((with_reducible refine' rx_lst ?h ?a ?q); (case h => with_reducible assumption); (case a => rfl)))
local macro_rules | `(tactic| walk_at "ss") => `(tactic| first | with_reducible refine ss_ret (se_fg ?_) | with_reducible refine ss_if ?_ | ((with_reducible refine' ss_expr ?q ?st); (case st => rfl)) | ((with_reducible refine' dx_set ?d _ ?h ?hs ?q); (case d => assumption); (case h => with_reducible assumption); (case hs => rfl)))
local macro_rules | `(tactic| walk_at "s") => `(tactic| first | with_reducible refine sb_one ?_ | with_reducible refine sb_cons ?_ | walk_at "ss")
local macro_rules | `(tactic| walk_at "t") => `(tactic| first | with_reducible refine st_not ?_ | ((with_reducible refine' st_cmp ?q ?st); (case st => first | exact nomark _ | rfl)) | with_reducible refine sw_and1 ?_ | with_reducible refine sw_or1 ?_ | with_reducible refine sw_or ?_ | with_reducible refine sw_and ?_ | ((with_reducible refine' st_chain ?q ?st); (case st => with_unfolding_all rfl)) | (refine st_of ?_; first | with_reducible refine sw_or ?_ | with_reducible refine sw_and ?_) | ((with_reducible refine' st_val ?q ?st); (case st => intro _; rfl)))
local macro_rules | `(tactic| walk_at "go") => `(tactic| repeat (first | walk_at "e" | walk_at "v" | walk_at "s" | walk_at "t"))
local macro_rules | `(tactic| walk_at "gt") => `(tactic| repeat (first | walk_at "e" | walk_at "v" | walk_at "ss" | walk_at "t"))
local macro_rules | `(tactic| walk_at "gx") => `(tactic| repeat (first | walk_at "e" | walk_at "v" | walk_at "ss" | walk_at "t" | refine ⟨by simp only [List.length_cons, List.length_nil]; decide, ?_⟩))
/-- a def that the top has written -/
def Top (K : PySem.W.Frag) (nm : Str) (st : Stmt) : Prop := ∃ f fd, PySem.W.nsIn K mainGlobals nm = some (some (.ref f)) ∧ Fun K nm nm st f fd
theorem top_mk {K : PySem.W.Frag} {nm : Str} {st : Stmt} {f : Addr} {oc : Value} {od an : Option Addr} {osl : Array (Option Value)} {kV doc pm cdv ct : Value} (a : PySem.W.nsIn K mainGlobals nm = some (some (.ref f))) (l : K.lookup f = some ⟨oc, od, .func (PySem.W.fnOf nm nm (defArgs st) (defBody st) (defScope st) .none kV doc pm an cdv ct), osl⟩)
    (c : PySem.W.codeIn K cdv nm = true) (k : PySem.W.keepIn K (.ref f) = true) : Top K nm st := ⟨_, _, a, fun_mk l c k⟩
theorem Top.fn {P : Program} {w : World} {K : PySem.W.Frag} {mg : Str → Option Value} {base h : Heap} {nm : Str} {st : Stmt} {k : Nat} {ps : List Str} {C : Con} (T : Top K nm st) (X : K.In h) (G : h.Ns mainGlobals mg) (ok : ∀ f fd, Fun K nm nm st f fd → FnOk P w K mg base (L2.CX P w) k f fd ps (SpC K C))
    (b : ∀ (kV doc pm : Value) (an : Option Addr) (cdv ct : Value) (us : List Value), us.length = ps.length → bindArgs (PySem.W.fnOf nm nm (defArgs st) (defBody st) (defScope st) .none kV doc pm an cdv ct) ⟨us, []⟩ = pure (ps.zip us)) : Fn P w K mg base nm k C := by
  obtain ⟨f, fd, a, F⟩ := T
  exact ⟨f, fd, ps, ok f fd F, PySem.W.mg_of X G a, F.kp, F.binds b⟩
theorem Top.kw1 {P : Program} {w : World} {K : PySem.W.Frag} {mg : Str → Option Value} {base h : Heap} {nm : Str} {st : Stmt} {k : Nat} {x : Str} {C : Con} (T : Top K nm st) (X : K.In h) (G : h.Ns mainGlobals mg) (ok : ∀ f fd, Fun K nm nm st f fd → FnOk P w K mg base (L2.CX P w) k f fd [x] (SpC K C))
    (b : ∀ (kV doc pm : Value) (an : Option Addr) (cdv ct : Value) (s : Shared) (u : Value), BindsTo s (PySem.W.fnOf nm nm (defArgs st) (defBody st) (defScope st) .none kV doc pm an cdv ct) ⟨[], [(x, u)]⟩ [(x, u)]) : FnK P w K mg base nm k [x] C := by
  obtain ⟨f, fd, a, F⟩ := T
  refine ⟨f, fd, ok f fd F, PySem.W.mg_of X G a, F.kp, fun s ws _ hl => ?_⟩
  obtain ⟨oc, od, kV, doc, pm, an, cdv, ct, osl, rfl, _⟩ := F.ex
  match ws, hl with
  | [u], _ => exact b kV doc pm an cdv ct s u
theorem all_mk {l : PySem.W.OpenLaw} {w : World} {K : PySem.W.Frag} {h : Heap} {mg : Str → Option Value} {fa : Addr} (X : K.In h) (G : h.Ns mainGlobals mg) (hfa : mg "law" = some (.ref fa))
    (T1 : Top K "is_int" s_is_int)
    (T2 : Top K "is_tuple_of" s_is_tuple_of)
    (T3 : Top K "is_shade" s_is_shade)
    (T4 : Top K "is_block_row" s_is_block_row)
    (T5 : Top K "is_block" s_is_block)
    (T6 : Top K "is_book" s_is_book)
    (T7 : Top K "is_picture" s_is_picture)
    (T8 : Top K "_law_ink" s_ink)
    (T9 : Top K "_law_drip" s_drip)
    (T10 : Top K "_law_wide" s_wide)
    (T11 : Top K "_law_plain" s_plain)
    (T12 : Top K "_law_at" s_at)
    (T13 : Top K "_law_with" s_with)
    (T14 : Top K "_law_path" s_path)
    (T15 : Top K "_law_odd" s_odd)
    (T16 : Top K "_law_bounds" s_bounds)
    (T17 : Top K "_law_told" s_told)
    (T18 : Top K "_law_spoilt_right" s_spoilt)
    (T19 : Top K "_law_pictures_right" s_pictures)
    (T20 : Top K "_law_others_right" s_others)
    (T21 : Top K "_law_bases_right" s_bases)
    (T22 : Top K "_law_right" s_right)
    (T23 : Top K "law" s_law)
    (z1 : PySem.W.nsIn K mainGlobals "len" = some none)
    (z2 : PySem.W.nsIn K mainGlobals "isinstance" = some none)
    (z3 : PySem.W.nsIn K mainGlobals "all" = some none)
    (z4 : PySem.W.nsIn K mainGlobals "int" = some none)
    (z5 : PySem.W.nsIn K mainGlobals "bool" = some none)
    (z6 : PySem.W.nsIn K mainGlobals "tuple" = some none)
    (z7 : PySem.W.nsIn K mainGlobals "sum" = some none)
    (z8 : PySem.W.nsIn K mainGlobals "max" = some none)
    (z9 : PySem.W.nsIn K mainGlobals "abs" = some none)
    (z10 : PySem.W.nsIn K mainGlobals "min" = some none)
    (z11 : PySem.W.nsIn K mainGlobals "range" = some none)
    (z12 : PySem.W.nsIn K mainGlobals "list" = some none)
    (z13 : PySem.W.nsIn K mainGlobals "str" = some none)
    {tM : Tok} (zM : PySem.W.nsIn K mainGlobals "MOST_LETTERS" = some (some (.int 64 tM))) :
    ∃ fd : FuncData, (∀ (s : Shared) (v : Value), BindsTo s fd ⟨[v], []⟩ [("_law_script", v)]) ∧ ∀ base : Heap, K.In base → base.Ns mainGlobals mg → FnOk l.prog w K mg base (L2.CX l.prog w) 9 fa fd ["_law_script"] (SpC K C_law) := by
  have m1 := PySem.W.mg_none_of X G z1
  have m2 := PySem.W.mg_none_of X G z2
  have m3 := PySem.W.mg_none_of X G z3
  have m4 := PySem.W.mg_none_of X G z4
  have m5 := PySem.W.mg_none_of X G z5
  have m6 := PySem.W.mg_none_of X G z6
  have m7 := PySem.W.mg_none_of X G z7
  have m8 := PySem.W.mg_none_of X G z8
  have m9 := PySem.W.mg_none_of X G z9
  have m10 := PySem.W.mg_none_of X G z10
  have m11 := PySem.W.mg_none_of X G z11
  have m12 := PySem.W.mg_none_of X G z12
  have m13 := PySem.W.mg_none_of X G z13
  have hM : ∃ t, mg "MOST_LETTERS" = some (.int 64 t) := ⟨_, PySem.W.mg_of X G zM⟩
  have T : Txt mg := ⟨m1, m2, m3, m4, m5, m6⟩
  obtain ⟨f, fd, a, F⟩ := T23
  have e := hfa.symm.trans (PySem.W.mg_of X G a)
  cases e
  obtain ⟨oc, od, kV, doc, pm, an, cdv, ct, osl, rfl, hlk⟩ := F.ex
  refine ⟨PySem.W.fnOf "law" "law" (defArgs s_law) (defBody s_law) (defScope s_law) .none kV doc pm an cdv ct, fun s v => .of_eq rfl, fun base _ _ => ?_⟩
  have F1 := T1.fn (base := base) X G (fun f fd F => ok_is_int (P := l.prog) (w := w) (base := base) F T) (fun _ _ _ _ _ _ us hl => match us, hl with | [_], _ => rfl)
  have F2 := T2.fn (base := base) X G (fun f fd F => ok_is_tuple_of (P := l.prog) (w := w) (base := base) F T) (fun _ _ _ _ _ _ us hl => match us, hl with | [_, _], _ => rfl)
  have F3 := T3.fn (base := base) X G (fun f fd F => ok_is_shade F F1) (fun _ _ _ _ _ _ us hl => match us, hl with | [_], _ => rfl)
  have F4 := T4.fn (base := base) X G (fun f fd F => ok_is_block_row F T F2 F1) (fun _ _ _ _ _ _ us hl => match us, hl with | [_, _, _], _ => rfl)
  have F5 := T5.fn (base := base) X G (fun f fd F => ok_is_block F T F2 F4) (fun _ _ _ _ _ _ us hl => match us, hl with | [_, _, _], _ => rfl)
  have F6 := T6.fn (base := base) X G (fun f fd F => ok_is_book F T hM F2 F1 F3 F5) (fun _ _ _ _ _ _ us hl => match us, hl with | [_], _ => rfl)
  have F7 := T7.fn (base := base) X G (fun f fd F => ok_is_picture F T F2 F1 F6) (fun _ _ _ _ _ _ us hl => match us, hl with | [_], _ => rfl)
  have F8 := T8.fn (base := base) X G (fun f fd F => ok_ink (P := l.prog) (w := w) (base := base) F T ⟨m7, m8, m9⟩) (fun _ _ _ _ _ _ us hl => match us, hl with | [_, _], _ => rfl)
  have F9 := T9.fn (base := base) X G (fun f fd F => ok_drip (P := l.prog) (w := w) (base := base) F T) (fun _ _ _ _ _ _ us hl => match us, hl with | [_, _], _ => rfl)
  have F10 := T10.fn (base := base) X G (fun f fd F => ok_wide F T m11 F9) (fun _ _ _ _ _ _ us hl => match us, hl with | [_, _, _], _ => rfl)
  have F11 := T11.fn (base := base) X G (fun f fd F => ok_plain (P := l.prog) (w := w) (base := base) F) (fun _ _ _ _ _ _ us hl => match us, hl with | [_, _], _ => rfl)
  have F12 := T12.fn (base := base) X G (fun f fd F => ok_at (P := l.prog) (w := w) (base := base) F) (fun _ _ _ _ _ _ us hl => match us, hl with | [_, _], _ => rfl)
  have W0 := T13.fn (base := base) X G (fun f fd F => ok_with_step (P := l.prog) (w := w) (base := base) F 0 (.inl rfl)) (fun _ _ _ _ _ _ us hl => match us, hl with | [_, _, _], _ => rfl)
  have W1 := T13.fn (base := base) X G (fun f fd F => ok_with_step F 1 (.inr W0)) (fun _ _ _ _ _ _ us hl => match us, hl with | [_, _, _], _ => rfl)
  have W2 := T13.fn (base := base) X G (fun f fd F => ok_with_step F 2 (.inr W1)) (fun _ _ _ _ _ _ us hl => match us, hl with | [_, _, _], _ => rfl)
  have W3 := T13.fn (base := base) X G (fun f fd F => ok_with_step F 3 (.inr W2)) (fun _ _ _ _ _ _ us hl => match us, hl with | [_, _, _], _ => rfl)
  have W4 := T13.fn (base := base) X G (fun f fd F => ok_with_step F 4 (.inr W3)) (fun _ _ _ _ _ _ us hl => match us, hl with | [_, _, _], _ => rfl)
  have F14 := T14.fn (base := base) X G (fun f fd F => ok_path F T F9) (fun _ _ _ _ _ _ us hl => match us, hl with | [_, _], _ => rfl)
  have F15 := T15.fn (base := base) X G (fun f fd F => ok_odd F T ⟨m12, m13⟩ F9) (fun _ _ _ _ _ _ us hl => match us, hl with | [_, _, _, _], _ => rfl)
  have F16 := T16.fn (base := base) X G (fun f fd F => ok_bounds (P := l.prog) (w := w) (base := base) F T) (fun _ _ _ _ _ _ us hl => match us, hl with | [_, _], _ => rfl)
  have F17 := T17.fn (base := base) X G (fun f fd F => ok_told F T F6 F7) (fun _ _ _ _ _ _ us hl => match us, hl with | [_, _, _], _ => rfl)
  have F18 := T18.fn (base := base) X G (fun f fd F => ok_spoilt F T F14 F16 F15 F12 W4 F17) (fun _ _ _ _ _ _ us hl => match us, hl with | [_, _, _], _ => rfl)
  have F19 := T19.fn (base := base) X G (fun f fd F => ok_pictures F T ⟨m12, m13⟩ F9 F17) (fun _ _ _ _ _ _ us hl => match us, hl with | [_, _, _], _ => rfl)
  have F20 := T20.fn (base := base) X G (fun f fd F => ok_others F T F9 F17) (fun _ _ _ _ _ _ us hl => match us, hl with | [_], _ => rfl)
  have F21 := T21.fn (base := base) X G (fun f fd F => ok_bases F T F9 F17) (fun _ _ _ _ _ _ us hl => match us, hl with | [_, _, _], _ => rfl)
  have K1 := T6.kw1 (base := base) X G (fun f fd F => ok_is_book F T hM F2 F1 F3 F5) (fun _ _ _ _ _ _ s u => .of_eq rfl)
  have K2 := T7.kw1 (base := base) X G (fun f fd F => ok_is_picture F T F2 F1 F6) (fun _ _ _ _ _ _ s u => .of_eq rfl)
  have F22 := T22.fn (base := base) X G (fun f fd F => ok_right F T m11 F9 F17 F10 F18 F20 F19 F11 F21 K1 K2) (fun _ _ _ _ _ _ us hl => match us, hl with | [_], _ => rfl)
  exact ok_law F T m11 ⟨m7, m8, m9⟩ m10 F8 F22
end Sy

open PySem PySem.W PyProof.Rows
set_option Elab.async false
set_option maxRecDepth 100000
theorem bits_lt {n : Int} (h : PySem.Builtin.Int.intBits n ≤ 1048576) : n.natAbs < 2 ^ Sy.scB := by
  unfold PySem.Builtin.Int.intBits at h
  show n.natAbs < 2 ^ 1048576
  by_cases e : n = 0
  · rw [e]; exact Nat.two_pow_pos 1048576
  · rw [if_neg (by simpa using e)] at h
    exact (Nat.log2_lt (by omega)).mp (by omega)
theorem law_spec {K : PySem.W.Frag} {H : L2.Hp} {a : Addr} {ns : List Int} (hl : ns.length ≤ 63) (hb : ∀ z ∈ ns, PySem.Builtin.Int.intBits z ≤ 1048576) (hO : L2.Only H) (hS : L2.SqL K H a (ns.map L2.V.int)) : Sy.SpC K Sy.C_law [.ref a] H (fun v _ => v = .bl true) fun _ _ _ => False := by
  have hf : Sy.FzL K H a (ns.map L2.V.int) := by
    rcases hS with (h | h) | h
    · rcases hO a with z | ⟨o, xs, z⟩
      · rw [z] at h; cases h
      · rw [z] at h; cases h
    · exact .inl h
    · exact .inr (.inr h)
  refine ⟨[.rdl (ns.map Sy.S.int)], fun _ => none, fun s _ => s = .bl true, fun _ _ _ => False, .cons (.rdl hf (Sy.RVs.ints ns)) .nil, (fun b o e => nomatch e), ⟨ns, rfl, hl, fun n hn => bits_lt (hb n hn), fun _ => rfl⟩, fun s M' v H' _ rv _ e => ?_, fun _ _ _ _ _ _ _ _ _ _ z => z.elim⟩
  subst e
  cases rv
  rfl
set_option maxHeartbeats 0 in
theorem PySem.Challenge.cw_everydepth_k04_books_and_pictures_told_f_holds : PySem.Challenge.rw_everydepth_k04_books_and_pictures_told_f.Holds := by
  w_on; o_law; k_head; (case hw => w_witness2)
  k_fill
  refine L2.walk_ofB (l := PySem.Challenge.rw_everydepth_k04_books_and_pictures_told_f) (n := 63) (k := 9) (x := "_law_script") (CX := fun w => L2.CX PySem.Challenge.rw_everydepth_k04_books_and_pictures_told_f.prog w) (sp := fun w => Sy.SpC _ Sy.C_law) rfl (by decide) rfl ⟨by decide, by decide, by decide⟩ (fun w h Y => PySem.W.kIn_of Y) ?F (fun _ _ a ns hl hb hO hS => law_spec hl hb hO hS) (fun _ _ _ _ _ ⟨_, _, _, _, _, _, _, _, _, _, _, _, z⟩ => z)
  case F =>
    intro w mg fa h KX G hmg
    refine' Sy.all_mk KX G hmg ?t1 ?t2 ?t3 ?t4 ?t5 ?t6 ?t7 ?t8 ?t9 ?t10 ?t11 ?t12 ?t13 ?t14 ?t15 ?t16 ?t17 ?t18 ?t19 ?t20 ?t21 ?t22 ?t23 ?z1 ?z2 ?z3 ?z4 ?z5 ?z6 ?z7 ?z8 ?z9 ?z10 ?z11 ?z12 ?z13 ?zM
    (case t1 => (refine' Sy.top_mk ?a ?l ?c ?k; (case a => k_is); (case l => k_is); (case c => k_is); (case k => k_is)))
    (case t2 => (refine' Sy.top_mk ?a ?l ?c ?k; (case a => k_is); (case l => k_is); (case c => k_is); (case k => k_is)))
    (case t3 => (refine' Sy.top_mk ?a ?l ?c ?k; (case a => k_is); (case l => k_is); (case c => k_is); (case k => k_is)))
    (case t4 => (refine' Sy.top_mk ?a ?l ?c ?k; (case a => k_is); (case l => k_is); (case c => k_is); (case k => k_is)))
    (case t5 => (refine' Sy.top_mk ?a ?l ?c ?k; (case a => k_is); (case l => k_is); (case c => k_is); (case k => k_is)))
    (case t6 => (refine' Sy.top_mk ?a ?l ?c ?k; (case a => k_is); (case l => k_is); (case c => k_is); (case k => k_is)))
    (case t7 => (refine' Sy.top_mk ?a ?l ?c ?k; (case a => k_is); (case l => k_is); (case c => k_is); (case k => k_is)))
    (case t8 => (refine' Sy.top_mk ?a ?l ?c ?k; (case a => k_is); (case l => k_is); (case c => k_is); (case k => k_is)))
    (case t9 => (refine' Sy.top_mk ?a ?l ?c ?k; (case a => k_is); (case l => k_is); (case c => k_is); (case k => k_is)))
    (case t10 => (refine' Sy.top_mk ?a ?l ?c ?k; (case a => k_is); (case l => k_is); (case c => k_is); (case k => k_is)))
    (case t11 => (refine' Sy.top_mk ?a ?l ?c ?k; (case a => k_is); (case l => k_is); (case c => k_is); (case k => k_is)))
    (case t12 => (refine' Sy.top_mk ?a ?l ?c ?k; (case a => k_is); (case l => k_is); (case c => k_is); (case k => k_is)))
    (case t13 => (refine' Sy.top_mk ?a ?l ?c ?k; (case a => k_is); (case l => k_is); (case c => k_is); (case k => k_is)))
    (case t14 => (refine' Sy.top_mk ?a ?l ?c ?k; (case a => k_is); (case l => k_is); (case c => k_is); (case k => k_is)))
    (case t15 => (refine' Sy.top_mk ?a ?l ?c ?k; (case a => k_is); (case l => k_is); (case c => k_is); (case k => k_is)))
    (case t16 => (refine' Sy.top_mk ?a ?l ?c ?k; (case a => k_is); (case l => k_is); (case c => k_is); (case k => k_is)))
    (case t17 => (refine' Sy.top_mk ?a ?l ?c ?k; (case a => k_is); (case l => k_is); (case c => k_is); (case k => k_is)))
    (case t18 => (refine' Sy.top_mk ?a ?l ?c ?k; (case a => k_is); (case l => k_is); (case c => k_is); (case k => k_is)))
    (case t19 => (refine' Sy.top_mk ?a ?l ?c ?k; (case a => k_is); (case l => k_is); (case c => k_is); (case k => k_is)))
    (case t20 => (refine' Sy.top_mk ?a ?l ?c ?k; (case a => k_is); (case l => k_is); (case c => k_is); (case k => k_is)))
    (case t21 => (refine' Sy.top_mk ?a ?l ?c ?k; (case a => k_is); (case l => k_is); (case c => k_is); (case k => k_is)))
    (case t22 => (refine' Sy.top_mk ?a ?l ?c ?k; (case a => k_is); (case l => k_is); (case c => k_is); (case k => k_is)))
    (case t23 => (refine' Sy.top_mk ?a ?l ?c ?k; (case a => k_is); (case l => k_is); (case c => k_is); (case k => k_is)))
    (case z1 => k_is)
    (case z2 => k_is)
    (case z3 => k_is)
    (case z4 => k_is)
    (case z5 => k_is)
    (case z6 => k_is)
    (case z7 => k_is)
    (case z8 => k_is)
    (case z9 => k_is)
    (case z10 => k_is)
    (case z11 => k_is)
    (case z12 => k_is)
    (case z13 => k_is)
    (case zM => k_is)
