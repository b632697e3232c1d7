import PyProof.Rows.All
import Wide.All
import OpenK.AllK
import Wide.FinOn
import HandS.ForMost
import HandS.ForExc
import HandS.IsInst
import HandS.Wide
import HandS.WideBits
import HandS.TupMul
import HandS.TupAny
import HandS.Conv
import HandS.Zip
import HandS.EndBits
import HandS.ExcValue
import KE.KExcIs
import KE.KExcMore
import HandS.Style
import HandS.ExcField
import HandS.ForSpec
import PyProof.LongRange
import PyProof.ReprRoads
import PyProof.ReprLen
import HandS.Star
import PySem.Challenge.RW_everydepth_k02_sheets_by_their_blocks
set_option Elab.async false
set_option linter.all false
set_option maxRecDepth 100000
/-! S1: a symbolic layer over the hand layer: tuples are trees, lists stand in a small store of their own. -/
namespace Sy
open PySem PySem.Spec PyProof.Rows L2

/-- a symbolic value -/
inductive S where
  | non | bl (b : Bool) | int (i : Int) | str (x : Str) | ptr (a : Addr) | ty (n : String) | tup (xs : List S)
  /-- a list that nothing changes (the script) -/
  | rdl (xs : List S)
  /-- a caught exception: its class, its value -/
  | exn (cls : Value) (s : S)

/-- a caught exception at a: its class, its dict -/
def exH (cls : Value) (d : Option Addr) (a : Addr) : HO := .ext fun h => ∃ (o : Obj) (vs : Array Value), h.get? a = some o ∧ Zc cls d o ∧ o.data = .fields vs
/-- a list that nothing changes, at a -/
def FzL (K : PySem.W.Frag) (H : Hp) (a : Addr) (xs : List V) : Prop := (∃ o, H a = some (.frz o (.lst xs))) ∨ SqL K (fun _ => none) a xs
theorem FzL.sq {K : PySem.W.Frag} {H : Hp} {a : Addr} {xs : List V} (h : FzL K H a xs) : SqL K H a xs := by
  rcases h with ⟨o, h⟩ | (h | ⟨o, h⟩) | h
  · exact .inl (.inr ⟨o, h⟩)
  · cases h
  · cases h
  · exact .inr h

/-- a tuple, tracked or of the module -/
def TqT (K : PySem.W.Frag) (H : Hp) (a : Addr) (xs : List V) : Prop := H a = some (.tup xs) ∨ SqT K (fun _ => none) a xs
theorem TqT.sq {K : PySem.W.Frag} {H : Hp} {a : Addr} {xs : List V} (h : TqT K H a xs) : SqT K H a xs := by
  rcases h with h | (h | ⟨o, h⟩) | h
  · exact .inl (.inl h)
  · cases h
  · cases h
  · exact .inr h

mutual
inductive RV (K : PySem.W.Frag) (H : Hp) : S → V → Prop
  | non : RV K H .non .non
  | bl (b : Bool) : RV K H (.bl b) (.bl b)
  | int (i : Int) : RV K H (.int i) (.int i)
  | str (x : Str) : RV K H (.str x) (.str x)
  | ptr (a : Addr) : RV K H (.ptr a) (.ref a)
  | ty (n : String) : RV K H (.ty n) (.ty n)
  | tup {a : Addr} {xs : List V} {ss : List S} : TqT K H a xs → RVs K H ss xs → RV K H (.tup ss) (.ref a)
  | rdl {a : Addr} {xs : List V} {ss : List S} : FzL K H a xs → RVs K H ss xs → RV K H (.rdl ss) (.ref a)
  | exn {a d : Addr} {cls : Value} {s : S} {v : V} : H a = some (exH cls (some d) a) → H d = some (.xd [(("value" : Str), v)]) → RV K H s v → RV K H (.exn cls s) (.ref a)
inductive RVs (K : PySem.W.Frag) (H : Hp) : List S → List V → Prop
  | nil : RVs K H [] []
  | cons {s : S} {v : V} {ss : List S} {vs : List V} : RV K H s v → RVs K H ss vs → RVs K H (s :: ss) (v :: vs)
end

/-- tuples stay -/
structure Keep (K : PySem.W.Frag) (H H' : Hp) : Prop where
  tup : ∀ a xs, TqT K H a xs → TqT K H' a xs
  fzl : ∀ a xs, FzL K H a xs → FzL K H' a xs
  ext : ∀ a φ, H a = some (.ext φ) → H' a = some (.ext φ)
  xdk : ∀ a fs, H a = some (.xd fs) → H' a = some (.xd fs)
theorem Keep.refl {K : PySem.W.Frag} {H : Hp} : Keep K H H := ⟨fun _ _ h => h, fun _ _ h => h, fun _ _ h => h, fun _ _ h => h⟩
theorem Keep.trans {K : PySem.W.Frag} {H H1 H2 : Hp} (a : Keep K H H1) (b : Keep K H1 H2) : Keep K H H2 := ⟨fun c xs h => b.tup c xs (a.tup c xs h), fun c xs h => b.fzl c xs (a.fzl c xs h), fun c xs h => b.ext c xs (a.ext c xs h), fun c xs h => b.xdk c xs (a.xdk c xs h)⟩

section
variable {K : PySem.W.Frag} {H H' : Hp}
mutual
theorem RV.mono (k : Keep K H H') : ∀ (s : S) (v : V), RV K H s v → RV K H' s v
  | .non, _, h => by cases h; exact .non
  | .bl b, _, h => by cases h; exact .bl b
  | .int i, _, h => by cases h; exact .int i
  | .str x, _, h => by cases h; exact .str x
  | .ptr a, _, h => by cases h; exact .ptr a
  | .ty n, _, h => by cases h; exact .ty n
  | .tup ss, _, h => by
    cases h with
    | tup h1 h2 => exact .tup (k.tup _ _ h1) (RVs.mono k ss _ h2)
  | .rdl ss, _, h => by
    cases h with
    | rdl h1 h2 => exact .rdl (k.fzl _ _ h1) (RVs.mono k ss _ h2)
  | .exn c s, _, h => by
    cases h with
    | exn h1 h2 h3 => exact .exn (k.ext _ _ h1) (k.xdk _ _ h2) (RV.mono k s _ h3)
theorem RVs.mono (k : Keep K H H') : ∀ (ss : List S) (vs : List V), RVs K H ss vs → RVs K H' ss vs
  | [], _, h => by cases h; exact .nil
  | s :: ss, _, h => by
    cases h with
    | cons h1 h2 => exact .cons (RV.mono k s _ h1) (RVs.mono k ss _ h2)
end
theorem RVs.length : ∀ {ss : List S} {vs : List V}, RVs K H ss vs → ss.length = vs.length
  | _, _, .nil => rfl
  | _, _, .cons _ t => by rw [List.length_cons, List.length_cons, RVs.length t]
theorem RVs.get : ∀ {ss : List S} {vs : List V} {i : Nat} {s : S}, RVs K H ss vs → ss[i]? = some s → ∃ v, vs[i]? = some v ∧ RV K H s v
  | _, _, _, _, .nil, e => by simp at e
  | _, _, 0, _, .cons r _, e => by simp at e; subst e; exact ⟨_, rfl, r⟩
  | _, _, i + 1, _, .cons _ t, e => by
    obtain ⟨v, h1, h2⟩ := RVs.get (i := i) t (by simpa using e)
    exact ⟨v, by simpa using h1, h2⟩
theorem RVs.getV : ∀ {ss : List S} {vs : List V} {i : Nat} {v : V}, RVs K H ss vs → vs[i]? = some v → ∃ s, ss[i]? = some s ∧ RV K H s v
  | _, _, _, _, .nil, e => by simp at e
  | _, _, 0, _, .cons r _, e => by simp at e; subst e; exact ⟨_, rfl, r⟩
  | _, _, i + 1, _, .cons _ t, e => by
    obtain ⟨v, h1, h2⟩ := RVs.getV (i := i) t (by simpa using e)
    exact ⟨v, by simpa using h1, h2⟩
theorem RVs.append : ∀ {ss ts : List S} {vs ws : List V}, RVs K H ss vs → RVs K H ts ws → RVs K H (ss ++ ts) (vs ++ ws)
  | _, _, _, _, .nil, s => s
  | _, _, _, _, .cons r t, s => .cons r (RVs.append t s)
theorem RVs.take : ∀ {ss : List S} {vs : List V} (n : Nat), RVs K H ss vs → RVs K H (ss.take n) (vs.take n)
  | _, _, 0, _ => .nil
  | _, _, _ + 1, .nil => .nil
  | _, _, n + 1, .cons r t => .cons r (RVs.take n t)
theorem RVs.drop : ∀ {ss : List S} {vs : List V} (n : Nat), RVs K H ss vs → RVs K H (ss.drop n) (vs.drop n)
  | _, _, 0, r => r
  | _, _, _ + 1, .nil => .nil
  | _, _, n + 1, .cons _ t => RVs.drop n t
theorem RVs.set {s : S} {v : V} (r : RV K H s v) : ∀ {ss : List S} {vs : List V} (i : Nat), RVs K H ss vs → RVs K H (ss.set i s) (vs.set i v)
  | _, _, _, .nil => .nil
  | _, _, 0, .cons _ t => .cons r t
  | _, _, i + 1, .cons q t => .cons q (RVs.set r i t)
theorem RVs.reverse : ∀ {ss : List S} {vs : List V}, RVs K H ss vs → RVs K H ss.reverse vs.reverse
  | _, _, .nil => .nil
  | _, _, .cons r t => by
    rw [List.reverse_cons, List.reverse_cons]
    exact (RVs.reverse t).append (.cons r .nil)
theorem RVs.dropLast {ss : List S} {vs : List V} (h : RVs K H ss vs) : RVs K H ss.dropLast vs.dropLast := by
  rw [List.dropLast_eq_take, List.dropLast_eq_take, h.length]
  exact h.take _
theorem RVs.eraseIdx : ∀ {ss : List S} {vs : List V} (i : Nat), RVs K H ss vs → RVs K H (ss.eraseIdx i) (vs.eraseIdx i)
  | _, _, _, .nil => .nil
  | _, _, 0, .cons _ t => t
  | _, _, i + 1, .cons q t => .cons q (RVs.eraseIdx i t)
theorem RVs.rep {ss : List S} {vs : List V} (h : RVs K H ss vs) : ∀ n : Nat, RVs K H (List.replicate n ss).flatten (List.replicate n vs).flatten
  | 0 => .nil
  | n + 1 => by
    rw [List.replicate_succ, List.replicate_succ, List.flatten_cons, List.flatten_cons]
    exact h.append (h.rep n)
theorem RVs.ints : ∀ (ns : List Int), RVs K H (ns.map S.int) (ns.map V.int)
  | [] => .nil
  | n :: ns => .cons (.int n) (RVs.ints ns)
end

/-- what stands in the store -/
inductive MO where
  | lst (xs : List S) | dK (kvs : List (Key × S))
abbrev Mem := Addr → Option MO
def updM (M : Mem) (a : Addr) (o : MO) : Mem := fun b => if b = a then some o else M b
theorem updM_same {M : Mem} {a : Addr} {o : MO} : updM M a o a = some o := by unfold updM; rw [if_pos rfl]
theorem updM_ne {M : Mem} {a b : Addr} {o : MO} (h : b ≠ a) : updM M a o b = M b := by unfold updM; rw [if_neg h]
theorem updM_updM {M : Mem} {a : Addr} {o u : MO} : updM (updM M a o) a u = updM M a u := by
  funext b; unfold updM; split <;> rfl
theorem neM {M : Mem} {a b : Addr} {o : MO} (h : M a = some o) (h' : M b = none) : a ≠ b := by
  intro e; rw [e, h'] at h; cases h

inductive KR (K : PySem.W.Frag) (H : Hp) : List (Key × S) → List (Key × V) → Prop
  | nil : KR K H [] []
  | cons {k : Key} {s : S} {v : V} {ss : List (Key × S)} {vs : List (Key × V)} : RV K H s v → KR K H ss vs → KR K H ((k, s) :: ss) ((k, v) :: vs)
theorem KR.mono {K : PySem.W.Frag} {H H' : Hp} (k : Keep K H H') : ∀ {ss : List (Key × S)} {vs : List (Key × V)}, KR K H ss vs → KR K H' ss vs
  | _, _, .nil => .nil
  | _, _, .cons r t => .cons (r.mono k) (KR.mono k t)

def MR (K : PySem.W.Frag) (H : Hp) (a : Addr) : MO → Prop
  | .lst ss => ∃ vs, H a = some (.lst vs) ∧ RVs K H ss vs
  | .dK kvs => ∃ ws, H a = some (.dK ws) ∧ KR K H kvs ws
def MemR (K : PySem.W.Frag) (M : Mem) (H : Hp) : Prop := ∀ a o, M a = some o → MR K H a o
theorem RV.up {K : PySem.W.Frag} {H H' : Hp} {s : S} {v : V} (h : RV K H s v) (k : Keep K H H') : RV K H' s v := RV.mono k s v h
theorem RVs.up {K : PySem.W.Frag} {H H' : Hp} {s : List S} {v : List V} (h : RVs K H s v) (k : Keep K H H') : RVs K H' s v := RVs.mono k s v h
theorem MR.up {K : PySem.W.Frag} {H H' : Hp} {a : Addr} {o : MO} (k : Keep K H H') (e : H' a = H a) (h : MR K H a o) : MR K H' a o := by
  cases o with
  | lst ss => obtain ⟨vs, h1, h2⟩ := h; exact ⟨vs, e.trans h1, h2.up k⟩
  | dK kvs => obtain ⟨vs, h1, h2⟩ := h; exact ⟨vs, e.trans h1, h2.mono k⟩
theorem MR.there {K : PySem.W.Frag} {H : Hp} {a : Addr} {o : MO} (h : MR K H a o) : H a ≠ none := by
  cases o with
  | lst ss => obtain ⟨vs, h1, h2⟩ := h; rw [h1]; exact fun z => nomatch z
  | dK kvs => obtain ⟨vs, h1, h2⟩ := h; rw [h1]; exact fun z => nomatch z
theorem MemR.free {K : PySem.W.Frag} {M : Mem} {H : Hp} {a : Addr} (m : MemR K M H) (h : H a = none) : M a = none := by
  cases e : M a with
  | none => rfl
  | some o => exact absurd h (m a o e).there

/-- what stands at p may be changed: nothing, a list or a dict of ours -/
def Soft : Option HO → Prop
  | none => True
  | some (.lst _) => True
  | some (.dK _) => True
  | _ => False
theorem keep_put {K : PySem.W.Frag} {H : Hp} {p : Addr} {o : HO} (s : Soft (H p)) : Keep K H (upd H p o) := by
  have n1 : ∀ a xs, H a = some (.tup xs) → a ≠ p := fun a xs e z => by rw [← z, e] at s; exact s
  have n2 : ∀ a ob u, H a = some (.frz ob u) → a ≠ p := fun a ob u e z => by rw [← z, e] at s; exact s
  refine ⟨fun a xs q => ?_, fun a xs q => ?_, fun a φ q => (upd_ne fun z => by rw [← z, q] at s; exact s).trans q, fun a fs q => (upd_ne fun z => by rw [← z, q] at s; exact s).trans q⟩
  · rcases q with q | q
    · exact .inl ((upd_ne (n1 _ _ q)).trans q)
    · exact .inr q
  · rcases q with ⟨ob, q⟩ | q
    · exact .inl ⟨ob, (upd_ne (n2 _ _ _ q)).trans q⟩
    · exact .inr q
theorem keep_new {K : PySem.W.Frag} {H : Hp} {p : Addr} {o : HO} (h : H p = none) : Keep K H (upd H p o) := keep_put (by rw [h]; exact True.intro)
theorem keep_lst {K : PySem.W.Frag} {H : Hp} {p : Addr} {o : HO} {vs : List V} (h : H p = some (.lst vs)) : Keep K H (upd H p o) := keep_put (by rw [h]; exact True.intro)
theorem keep_dK {K : PySem.W.Frag} {H : Hp} {p : Addr} {o : HO} {vs : List (Key × V)} (h : H p = some (.dK vs)) : Keep K H (upd H p o) := keep_put (by rw [h]; exact True.intro)
/-- the store behind a write at p, or a new object there -/
theorem MemR.put {K : PySem.W.Frag} {M : Mem} {H : Hp} {p : Addr} {o : HO} {u : MO} (k : Keep K H (upd H p o)) (m : MemR K M H) (n : MR K (upd H p o) p u) : MemR K (updM M p u) (upd H p o) := fun a x e => by
  by_cases h : a = p
  · subst h
    rw [updM_same] at e
    cases e
    exact n
  · rw [updM_ne h] at e
    exact (m a x e).up k (upd_ne h)
/-- a new object that the store does not tell -/
theorem MemR.skip {K : PySem.W.Frag} {M : Mem} {H : Hp} {p : Addr} {o : HO} (h : H p = none) (m : MemR K M H) : MemR K M (upd H p o) := fun a x e =>
  (m a x e).up (keep_new h) (upd_ne fun z => (m a x e).there (by rw [z]; exact h))

/-- the slots -/
inductive EnvR (K : PySem.W.Frag) (H : Hp) : List (Option S) → List (Option V) → Prop
  | nil : EnvR K H [] []
  | nah {o : Option V} {es : List (Option S)} {os : List (Option V)} : EnvR K H es os → EnvR K H (none :: es) (o :: os)
  | yea {s : S} {v : V} {es : List (Option S)} {os : List (Option V)} : RV K H s v → EnvR K H es os → EnvR K H (some s :: es) (some v :: os)
section
variable {K : PySem.W.Frag} {H H' : Hp}
theorem EnvR.up (k : Keep K H H') : ∀ {es : List (Option S)} {os : List (Option V)}, EnvR K H es os → EnvR K H' es os
  | _, _, .nil => .nil
  | _, _, .nah t => .nah (EnvR.up k t)
  | _, _, .yea r t => .yea (r.up k) (EnvR.up k t)
theorem EnvR.get : ∀ {es : List (Option S)} {os : List (Option V)} {i : Nat} {s : S}, EnvR K H es os → es[i]? = some (some s) → ∃ v, os[i]? = some (some v) ∧ RV K H s v
  | _, _, _, _, .nil, e => by simp at e
  | _, _, 0, _, .nah _, e => by simp at e
  | _, _, 0, _, .yea r _, e => by simp at e; subst e; exact ⟨_, rfl, r⟩
  | _, _, i + 1, _, .nah t, e => by
    obtain ⟨v, h1, h2⟩ := EnvR.get (i := i) t (by simpa using e)
    exact ⟨v, by simpa using h1, h2⟩
  | _, _, i + 1, _, .yea _ t, e => by
    obtain ⟨v, h1, h2⟩ := EnvR.get (i := i) t (by simpa using e)
    exact ⟨v, by simpa using h1, h2⟩
theorem EnvR.set {s : S} {v : V} (r : RV K H s v) : ∀ {es : List (Option S)} {os : List (Option V)} (i : Nat), EnvR K H es os → EnvR K H (es.set i (some s)) (os.set i (some v))
  | _, _, _, .nil => .nil
  | _, _, 0, .nah t => .yea r t
  | _, _, 0, .yea _ t => .yea r t
  | _, _, i + 1, .nah t => .nah (EnvR.set r i t)
  | _, _, i + 1, .yea q t => .yea q (EnvR.set r i t)
/-- a slot is forgotten -/
theorem EnvR.forget {o : Option V} : ∀ {es : List (Option S)} {os : List (Option V)} (i : Nat), EnvR K H es os → EnvR K H (es.set i none) (os.set i o)
  | _, _, _, .nil => .nil
  | _, _, 0, .nah t => .nah t
  | _, _, 0, .yea _ t => .nah t
  | _, _, i + 1, .nah t => .nah (EnvR.forget i t)
  | _, _, i + 1, .yea q t => .yea q (EnvR.forget i t)
theorem EnvR.of (ss : List S) : ∀ {vs : List V}, RVs K H ss vs → ∀ n, EnvR K H (ss.map some ++ List.replicate n none) (vs.map some ++ List.replicate n none) := by
  induction ss with
  | nil =>
    intro vs h n
    cases h
    induction n with
    | zero => exact .nil
    | succ n ih => exact .nah ih
  | cons s ss ih =>
    intro vs h n
    cases h with
    | cons r t => exact .yea r (ih t n)
end

abbrev Ev := List (Option S)
/-- the symbolic state of a def: G what stood at its entry -/
structure Rel (K : PySem.W.Frag) (G : Hp) (env : Ev) (M : Mem) (σ : L2.St) (H : Hp) : Prop where
  base : Keep K G H
  env : EnvR K H env σ
  mem : MemR K M H
theorem Rel.step {K : PySem.W.Frag} {G : Hp} {env : Ev} {M M' : Mem} {σ : L2.St} {H H' : Hp} (r : Rel K G env M σ H) (k : Keep K H H') (m : MemR K M' H') : Rel K G env M' σ H' := ⟨r.base.trans k, r.env.up k, m⟩
theorem Rel.set {K : PySem.W.Frag} {G : Hp} {env : Ev} {M : Mem} {σ : L2.St} {H : Hp} {s : S} {v : V} (r : Rel K G env M σ H) (q : RV K H s v) (i : Nat) : Rel K G (env.set i (some s)) M (σ.set i (some v)) H := ⟨r.base, r.env.set q i, r.mem⟩
end Sy

set_option Elab.async false
set_option linter.all false
set_option maxRecDepth 100000
/-! S2: the judgements and their rules. -/
namespace Sy
open PySem PySem.Spec PyProof.Rows L2
abbrev QS := S → Mem → Prop
section
variable (X : Cx) (G : Hp)
def PostE (H : Hp) (Q : QS) : VK := fun v H' => ∃ s M', Keep X.K H H' ∧ RV X.K H' s v ∧ MemR X.K M' H' ∧ Q s M'
def PostA (H : Hp) (Q : List S → Mem → Prop) : List V → Hp → Prop := fun v H' => ∃ s M', Keep X.K H H' ∧ RVs X.K H' s v ∧ MemR X.K M' H' ∧ Q s M'
def PostT (H : Hp) (Q : Bool → Mem → Prop) : Bool → Hp → Prop := fun b H' => ∃ M', Keep X.K H H' ∧ MemR X.K M' H' ∧ Q b M'
/-- the expression e, at the symbolic state, gives a value and a store of which Q holds -/
def SE (e : Expr) (env : Ev) (M : Mem) (Q : QS) : Prop := ∀ σ H, Rel X.K G env M σ H → ∃ t, PE X e t ∧ t σ H (PostE X H Q)
def SA (es : List Expr) (env : Ev) (M : Mem) (Q : List S → Mem → Prop) : Prop := ∀ σ H, Rel X.K G env M σ H → ∃ t, PA X es t ∧ t σ H (PostA X H Q)
def ST (e : Expr) (env : Ev) (M : Mem) (Q : Bool → Mem → Prop) : Prop := ∀ σ H, Rel X.K G env M σ H → ∃ t, PT X e t ∧ t σ H (PostT X H Q)
def SW (e : Expr) (env : Ev) (M : Mem) (Q : Bool → Mem → Prop) : Prop := ∀ σ H, Rel X.K G env M σ H → ∃ t, PW X e t ∧ t σ H (PostT X H Q)
/-- what is wanted behind a statement -/
structure SD where
  nx : Ev → Mem → Prop
  rt : QS
  bk : Ev → Mem → Prop := fun _ _ => False
  ct : Ev → Mem → Prop := fun _ _ => False
def Dn (n : Ev → Mem → Prop) : L2.St → Hp → Prop := fun σ H => ∃ env M, Rel X.K G env M σ H ∧ n env M
def Dr (D : SD) : Ends := { nx := Dn X G D.nx, rt := fun v H => ∃ s M, Keep X.K G H ∧ RV X.K H s v ∧ MemR X.K M H ∧ D.rt s M, bk := Dn X G D.bk, ct := Dn X G D.ct }
def SS (st : Stmt) (env : Ev) (M : Mem) (D : SD) : Prop := ∀ G1, Keep X.K G G1 → ∀ σ H, Rel X.K G1 env M σ H → ∃ t, PS X st t ∧ t (Dr X G1 D) σ H
def SSs (st : List Stmt) (env : Ev) (M : Mem) (D : SD) : Prop := ∀ G1, Keep X.K G G1 → ∀ σ H, Rel X.K G1 env M σ H → ∃ t, PSs X st t ∧ t (Dr X G1 D) σ H

def tS (e : Expr) : TE := fun σ H R => ∃ env M Q, Rel X.K G env M σ H ∧ SE X G e env M Q ∧ ∀ v H', PostE X H Q v H' → R v H'
def tSA (es : List Expr) : TA := fun σ H R => ∃ env M Q, Rel X.K G env M σ H ∧ SA X G es env M Q ∧ ∀ v H', PostA X H Q v H' → R v H'
def tST (e : Expr) : TT := fun σ H R => ∃ env M Q, Rel X.K G env M σ H ∧ ST X G e env M Q ∧ ∀ v H', PostT X H Q v H' → R v H'
def tSW (e : Expr) : TT := fun σ H R => ∃ env M Q, Rel X.K G env M σ H ∧ SW X G e env M Q ∧ ∀ v H', PostT X H Q v H' → R v H'
structure DLe (D D' : Ends) : Prop where
  nx : ∀ σ H, D.nx σ H → D'.nx σ H
  rt : ∀ v H, D.rt v H → D'.rt v H
  bk : ∀ σ H, D.bk σ H → D'.bk σ H
  ct : ∀ σ H, D.ct σ H → D'.ct σ H
def tSS (st : Stmt) : TS := fun D σ H => ∃ env M D' G1, Keep X.K G G1 ∧ Rel X.K G1 env M σ H ∧ SS X G st env M D' ∧ DLe (Dr X G1 D') D
def tSSs (st : List Stmt) : TS := fun D σ H => ∃ env M D' G1, Keep X.K G G1 ∧ Rel X.K G1 env M σ H ∧ SSs X G st env M D' ∧ DLe (Dr X G1 D') D
end
theorem DLe.refl {D : Ends} : DLe D D := ⟨fun _ _ h => h, fun _ _ h => h, fun _ _ h => h, fun _ _ h => h⟩
section
variable {X : Cx} {G : Hp}
theorem sp_le {D D' : Ends} (l : DLe D D') {pins : List (Addr × Obj)} {f : Flow} {s : Shared} (h : SP X pins D f s) : SP X pins D' f s := by
  cases f with
  | next => obtain ⟨a, b, c, d⟩ := h; exact ⟨a, b, c, l.nx _ _ d⟩
  | brk => obtain ⟨a, b, c, d⟩ := h; exact ⟨a, b, c, l.bk _ _ d⟩
  | cont => obtain ⟨a, b, c, d⟩ := h; exact ⟨a, b, c, l.ct _ _ d⟩
  | ret u => obtain ⟨a, b, c, d, e, g⟩ := h; exact ⟨a, b, c, d, e, l.rt _ _ g⟩
theorem pe_S {e : Expr} : PE X e (tS X G e) := ⟨fun pins s σ H R I h => by
  obtain ⟨env, M, Q, r, hs, k⟩ := h
  obtain ⟨t, p, ht⟩ := hs σ H r
  exact thn (p.run pins s σ H _ I ht) fun u s1 ⟨v, H', I', rv, q⟩ => ⟨v, H', I', rv, k v H' q⟩⟩
theorem pa_S {es : List Expr} : PA X es (tSA X G es) := ⟨fun pos pins s σ H R I h => by
  obtain ⟨env, M, Q, r, hs, k⟩ := h
  obtain ⟨t, p, ht⟩ := hs σ H r
  exact thn (p.run pos pins s σ H _ I ht) fun u s1 ⟨v, H', I', rv, q⟩ => ⟨v, H', I', rv, k v H' q⟩⟩
theorem pt_S {e : Expr} : PT X e (tST X G e) := ⟨fun pins s σ H R I h => by
  obtain ⟨env, M, Q, r, hs, k⟩ := h
  obtain ⟨t, p, ht⟩ := hs σ H r
  exact thn (p.run pins s σ H _ I ht) fun u s1 ⟨H', I', q⟩ => ⟨H', I', k u H' q⟩⟩
theorem pw_S {e : Expr} : PW X e (tSW X G e) := ⟨fun wh pins s σ H R I h => by
  obtain ⟨env, M, Q, r, hs, k⟩ := h
  obtain ⟨t, p, ht⟩ := hs σ H r
  exact thn (p.run wh pins s σ H _ I ht) fun u s1 ⟨H', I', q⟩ => ⟨H', I', k u H' q⟩⟩
theorem ps_S {st : Stmt} : PS X st (tSS X G st) := ⟨fun pins s σ H D I h => by
  obtain ⟨env, M, D', G1, kG, r, hs, k⟩ := h
  obtain ⟨t, p, ht⟩ := hs G1 kG σ H r
  exact thn (p.run pins s σ H _ I ht) fun u s1 q => sp_le k q⟩
theorem pss_S {st : List Stmt} : PSs X st (tSSs X G st) := ⟨fun pins s σ H D I h => by
  obtain ⟨env, M, D', G1, kG, r, hs, k⟩ := h
  obtain ⟨t, p, ht⟩ := hs G1 kG σ H r
  exact thn (p.run pins s σ H _ I ht) fun u s1 q => sp_le k q⟩

/-! ### mono -/
theorem PostE.mono {H : Hp} {Q Q' : QS} {v : V} {H' : Hp} (h : PostE X H Q v H') (k : ∀ s M, Q s M → Q' s M) : PostE X H Q' v H' := by
  obtain ⟨s, M, a, b, c, d⟩ := h; exact ⟨s, M, a, b, c, k _ _ d⟩
theorem PostE.back {H H1 : Hp} {Q : QS} {v : V} {H' : Hp} (k : Keep X.K H H1) (h : PostE X H1 Q v H') : PostE X H Q v H' := by
  obtain ⟨s, M, a, b, c, d⟩ := h; exact ⟨s, M, k.trans a, b, c, d⟩
theorem PostA.back {H H1 : Hp} {Q : List S → Mem → Prop} {v : List V} {H' : Hp} (k : Keep X.K H H1) (h : PostA X H1 Q v H') : PostA X H Q v H' := by
  obtain ⟨s, M, a, b, c, d⟩ := h; exact ⟨s, M, k.trans a, b, c, d⟩
theorem PostT.back {H H1 : Hp} {Q : Bool → Mem → Prop} {v : Bool} {H' : Hp} (k : Keep X.K H H1) (h : PostT X H1 Q v H') : PostT X H Q v H' := by
  obtain ⟨M, a, c, d⟩ := h; exact ⟨M, k.trans a, c, d⟩
theorem pack {H : Hp} {Q : QS} {s : S} {v : V} {M : Mem} (r : RV X.K H s v) (m : MemR X.K M H) (q : Q s M) : PostE X H Q v H := ⟨s, M, Keep.refl, r, m, q⟩

/-! ### the two heads: a tS from an SE -/
theorem tS_go {e : Expr} {env : Ev} {M : Mem} {Q : QS} {σ : L2.St} {H : Hp} {R : VK} (r : Rel X.K G env M σ H) (h : SE X G e env M Q) (k : ∀ s M' v H', Keep X.K H H' → RV X.K H' s v → Rel X.K G env M' σ H' → Q s M' → R v H') : tS X G e σ H R :=
  ⟨env, M, Q, r, h, fun v H' ⟨s, M', a, b, c, d⟩ => k s M' v H' a b (r.step a c) d⟩
theorem Rel.weak {K : PySem.W.Frag} {G G1 : Hp} {env : Ev} {M : Mem} {σ : L2.St} {H : Hp} (r : Rel K G1 env M σ H) (k : Keep K G G1) : Rel K G env M σ H := ⟨k.trans r.base, r.env, r.mem⟩
theorem tS_at {e : Expr} {env : Ev} {M : Mem} {Q : QS} {σ : L2.St} {H G1 : Hp} {R : VK} (kG : Keep X.K G G1) (r : Rel X.K G1 env M σ H) (h : SE X G e env M Q) (k : ∀ s M' v H', Keep X.K H H' → RV X.K H' s v → Rel X.K G1 env M' σ H' → Q s M' → R v H') : tS X G e σ H R :=
  ⟨env, M, Q, r.weak kG, h, fun v H' ⟨s, M', a, b, c, d⟩ => k s M' v H' a b (r.step a c) d⟩
theorem tSA_at {e : List Expr} {env : Ev} {M : Mem} {Q : List S → Mem → Prop} {σ : L2.St} {H G1 : Hp} {R : List V → Hp → Prop} (kG : Keep X.K G G1) (r : Rel X.K G1 env M σ H) (h : SA X G e env M Q) (k : ∀ s M' v H', Keep X.K H H' → RVs X.K H' s v → Rel X.K G1 env M' σ H' → Q s M' → R v H') : tSA X G e σ H R :=
  ⟨env, M, Q, r.weak kG, h, fun v H' ⟨s, M', a, b, c, d⟩ => k s M' v H' a b (r.step a c) d⟩
theorem tST_at {e : Expr} {env : Ev} {M : Mem} {Q : Bool → Mem → Prop} {σ : L2.St} {H G1 : Hp} {R : Bool → Hp → Prop} (kG : Keep X.K G G1) (r : Rel X.K G1 env M σ H) (h : ST X G e env M Q) (k : ∀ b M' H', Keep X.K H H' → Rel X.K G1 env M' σ H' → Q b M' → R b H') : tST X G e σ H R :=
  ⟨env, M, Q, r.weak kG, h, fun v H' ⟨M', a, c, d⟩ => k v M' H' a (r.step a c) d⟩
theorem tSA_go {e : List Expr} {env : Ev} {M : Mem} {Q : List S → Mem → Prop} {σ : L2.St} {H : Hp} {R : List V → Hp → Prop} (r : Rel X.K G env M σ H) (h : SA X G e env M Q) (k : ∀ s M' v H', Keep X.K H H' → RVs X.K H' s v → Rel X.K G env M' σ H' → Q s M' → R v H') : tSA X G e σ H R :=
  ⟨env, M, Q, r, h, fun v H' ⟨s, M', a, b, c, d⟩ => k s M' v H' a b (r.step a c) d⟩
theorem tST_go {e : Expr} {env : Ev} {M : Mem} {Q : Bool → Mem → Prop} {σ : L2.St} {H : Hp} {R : Bool → Hp → Prop} (r : Rel X.K G env M σ H) (h : ST X G e env M Q) (k : ∀ b M' H', Keep X.K H H' → Rel X.K G env M' σ H' → Q b M' → R b H') : tST X G e σ H R :=
  ⟨env, M, Q, r, h, fun v H' ⟨M', a, c, d⟩ => k v M' H' a (r.step a c) d⟩
theorem tSW_go {e : Expr} {env : Ev} {M : Mem} {Q : Bool → Mem → Prop} {σ : L2.St} {H : Hp} {R : Bool → Hp → Prop} (r : Rel X.K G env M σ H) (h : SW X G e env M Q) (k : ∀ b M' H', Keep X.K H H' → Rel X.K G env M' σ H' → Q b M' → R b H') : tSW X G e σ H R :=
  ⟨env, M, Q, r, h, fun v H' ⟨M', a, c, d⟩ => k v M' H' a (r.step a c) d⟩

/-! ### names and constants -/
variable {env : Ev} {M : Mem} {Q : QS} {a b c e : Expr} {es : List Expr} {pos : Pos}
theorem se_name {i : Nat} {x : Str} {s : S} (he : env[i]? = some (some s)) (hN : X.N[i]? = some x) (hv : Vis X.env.scope x) (q : Q s M) (hd : (x == ("__debug__" : Str)) = false := by decide) (hcd : (x == ("__classdict__" : Str)) = false := by decide) : SE X G (.Name x pos) env M Q := fun σ H r => by
  obtain ⟨v, e1, rv⟩ := r.env.get he
  exact ⟨_, pe_var hN hv hd hcd, v, e1, pack rv r.mem q⟩
theorem se_int {i : Int} {j} (q : Q (.int i) M) : SE X G (.Constant (.int i) j pos) env M Q := fun σ H r => ⟨_, pe_int, pack (.int i) r.mem q⟩
theorem se_bl {i : Bool} {j} (q : Q (.bl i) M) : SE X G (.Constant (.bool i) j pos) env M Q := fun σ H r => ⟨_, pe_bl, pack (.bl i) r.mem q⟩
theorem se_non {j} (q : Q .non M) : SE X G (.Constant .none j pos) env M Q := fun σ H r => ⟨_, pe_non, pack .non r.mem q⟩
theorem se_str {x : Str} {j} (q : Q (.str x) M) : SE X G (.Constant (.str x) j pos) env M Q := fun σ H r => ⟨_, pe_str, pack (.str x) r.mem q⟩
/-- a constant of the module -/
theorem se_glob {x : Str} {s : S} {v : V} {u : Value} (hg : Gl X x) (hm : X.mg x = some u) (hr : RelV v u) (hs : ∀ H, RV X.K H s v) (q : Q s M) (hd : (x == ("__debug__" : Str)) = false := by decide) : SE X G (.Name x pos) env M Q := fun σ H r =>
  ⟨_, pe_glob hg hm hr hd, pack (hs H) r.mem q⟩
theorem se_bltn {x : Str} {n : String} (hg : Gl X x) (hm : X.mg x = none) (hv : bootBuiltins x = some (.type n)) (q : Q (.ty n) M) (hn : x ≠ "__name__" := by decide) (hd : (x == ("__debug__" : Str)) = false := by decide) : SE X G (.Name x pos) env M Q := fun σ H r =>
  ⟨_, pe_bltn (v := .ty n) hg hm hv rfl hn hd, pack (.ty n) r.mem q⟩

/-! ### operators -/
def RO (X : Cx) (op : Operator) (x y : S) (M : Mem) (Q : QS) : Prop := ∀ v w H, MemR X.K M H → RV X.K H x v → RV X.K H y w → ∃ r, OpR X (binaryOp op) r ∧ r v w H (PostE X H Q)
def RC (X : Cx) (op : CmpOp) (x y : S) (M : Mem) (Q : QS) : Prop := ∀ v w H, MemR X.K M H → RV X.K H x v → RV X.K H y w → ∃ r, OpR X (compareOp op) r ∧ r v w H (PostE X H Q)
def RU (X : Cx) (op : UnaryOp) (x : S) (M : Mem) (Q : QS) : Prop := ∀ v H, MemR X.K M H → RV X.K H x v → ∃ r, UnR X (unaryOp op) r ∧ r v H (PostE X H Q)
def RX (X : Cx) (x y : S) (M : Mem) (Q : QS) : Prop := ∀ v w H, MemR X.K M H → RV X.K H x v → RV X.K H y w → ∃ r, IxR X r ∧ r v w H (PostE X H Q)
def RB (X : Cx) (f : Value) (xs : List S) (M : Mem) (Q : QS) : Prop := ∀ vs H, MemR X.K M H → RVs X.K H xs vs → ∃ r, CallR X f r ∧ r vs H (PostE X H Q)
/-- any operation by its rules, weakened -/
def anyO (X : Cx) (f : Value → Value → Sem Value) : R2 := fun x y H R => ∃ (Q : VK) (r : R2), OpR X f r ∧ r x y H Q ∧ ∀ z H', Q z H' → R z H'
def anyU (X : Cx) (f : Value → Sem Value) : V → Hp → VK → Prop := fun x H R => ∃ (Q : VK) (r : V → Hp → VK → Prop), UnR X f r ∧ r x H Q ∧ ∀ z H', Q z H' → R z H'
def anyX (X : Cx) : R2 := fun x y H R => ∃ (Q : VK) (r : R2), IxR X r ∧ r x y H Q ∧ ∀ z H', Q z H' → R z H'
def anyC (X : Cx) (f : Value) : List V → Hp → VK → Prop := fun x H R => ∃ (Q : VK) (r : List V → Hp → VK → Prop), CallR X f r ∧ r x H Q ∧ ∀ z H', Q z H' → R z H'
theorem ep_le {pins : List (Addr × Obj)} {σ : L2.St} {Q R : VK} (k : ∀ z H', Q z H' → R z H') {u : Value} {s : Shared} (h : EP X pins σ Q u s) : EP X pins σ R u s := by
  obtain ⟨v, H', I, r, q⟩ := h
  exact ⟨v, H', I, r, k _ _ q⟩
theorem opr_any {f : Value → Value → Sem Value} : OpR X f (anyO X f) := by
  intro pins s σ H x y v u R I rx ry ⟨Q, r, h, q, k⟩
  exact thn (h pins s σ H x y v u Q I rx ry q) fun _ _ z => ep_le k z
theorem unr_any {f : Value → Sem Value} : UnR X f (anyU X f) := by
  intro pins s σ H x v R I rx ⟨Q, r, h, q, k⟩
  exact thn (h pins s σ H x v Q I rx q) fun _ _ z => ep_le k z
theorem ixr_any : IxR X (anyX X) := by
  intro va sl pins s σ H x y v u R I rx ry ⟨Q, r, h, q, k⟩ hs
  exact thn (h va sl pins s σ H x y v u Q I rx ry q hs) fun _ _ z => ep_le k z
theorem clr_any {f : Value} : CallR X f (anyC X f) := by
  intro pins s σ H xs us R I rx ⟨Q, r, h, q, k⟩
  exact thn (h pins s σ H xs us Q I rx q) fun _ _ z => ep_le k z
theorem se_bin {op : Operator} (h : SE X G a env M fun x M1 => SE X G b env M1 fun y M2 => RO X op x y M2 Q) : SE X G (.BinOp a op b pos) env M Q := fun σ H R =>
  ⟨_, pe_op opr_any pe_S pe_S, tS_go R h fun x M1 v H1 k1 rv R1 q1 => tS_go R1 q1 fun y M2 w H2 k2 rw R2 q2 => by
    obtain ⟨r, hr, q⟩ := q2 v w H2 R2.mem (rv.up k2) rw
    exact ⟨_, r, hr, q, fun z H' p => p.back (k1.trans k2)⟩⟩
theorem se_cmp {op : CmpOp} (h : SE X G a env M fun x M1 => SE X G b env M1 fun y M2 => RC X op x y M2 Q) (hm : behindInMarks op b = false := by first | exact nomark _ | rfl) : SE X G (.Compare a [op] [b] pos) env M Q := fun σ H R =>
  ⟨_, pe_cmpR opr_any pe_S pe_S hm, tS_go R h fun x M1 v H1 k1 rv R1 q1 => tS_go R1 q1 fun y M2 w H2 k2 rw R2 q2 => by
    obtain ⟨r, hr, q⟩ := q2 v w H2 R2.mem (rv.up k2) rw
    exact ⟨_, r, hr, q, fun z H' p => p.back (k1.trans k2)⟩⟩
/-- what a test wants of a truth value -/
def QB (Q : Bool → Mem → Prop) : QS := fun s M => ∃ k, s = .bl k ∧ Q k M
theorem QB.mk {Q : Bool → Mem → Prop} {k : Bool} {M : Mem} (h : Q k M) : QB Q (.bl k) M := ⟨k, rfl, h⟩
theorem QB.post {H H0 : Hp} {Q : Bool → Mem → Prop} {v : V} {H' : Hp} (k0 : Keep X.K H0 H) (h : PostE X H (QB Q) v H') : ∃ k, v = .bl k ∧ PostT X H0 Q k H' := by
  obtain ⟨s, M, a, b, c, k, rfl, q⟩ := h
  cases b
  exact ⟨k, rfl, M, k0.trans a, c, q⟩
theorem st_cmp {op : CmpOp} {Q : Bool → Mem → Prop} (h : SE X G a env M fun x M1 => SE X G b env M1 fun y M2 => RC X op x y M2 (QB Q)) (hm : behindInMarks op b = false := by first | exact nomark _ | rfl) : ST X G (.Compare a [op] [b] pos) env M Q := fun σ H R =>
  ⟨_, pt_cmpR opr_any pe_S pe_S hm, tS_go R h fun x M1 v H1 k1 rv R1 q1 => tS_go R1 q1 fun y M2 w H2 k2 rw R2 q2 => by
    obtain ⟨r, hr, q⟩ := q2 v w H2 R2.mem (rv.up k2) rw
    exact ⟨_, r, hr, q, fun z H' p => QB.post (k1.trans k2) p⟩⟩
theorem st_val {Q : Bool → Mem → Prop} (h : SE X G e env M (QB Q)) (he : ∀ whole, isTrue e X.env whole = (do let v ← whole; standAt e.pos; holding [v] (truthy v)) := by intro _; rfl) : ST X G e env M Q := fun σ H R =>
  ⟨_, pt_val pe_S he, env, M, _, R, h, fun v H' p => QB.post Keep.refl p⟩
theorem se_un {op : UnaryOp} (h : SE X G a env M fun x M1 => RU X op x M1 Q) : SE X G (.UnaryOp op a pos) env M Q := fun σ H R =>
  ⟨_, pe_un unr_any pe_S, tS_go R h fun x M1 v H1 k1 rv R1 q1 => by
    obtain ⟨r, hr, q⟩ := q1 v H1 R1.mem rv
    exact ⟨_, r, hr, q, fun z H' p => p.back k1⟩⟩
theorem se_ix (h : SE X G a env M fun x M1 => SE X G b env M1 fun y M2 => RX X x y M2 Q) (hs : PlainIx b := by exact fun _ _ => rfl) : SE X G (.Subscript a b pos) env M Q := fun σ H R =>
  ⟨_, pe_ix ixr_any pe_S pe_S hs, tS_go R h fun x M1 v H1 k1 rv R1 q1 => tS_go R1 q1 fun y M2 w H2 k2 rw R2 q2 => by
    obtain ⟨r, hr, q⟩ := q2 v w H2 R2.mem (rv.up k2) rw
    exact ⟨_, r, hr, q, fun z H' p => p.back (k1.trans k2)⟩⟩
/-! ### arguments, displays -/
theorem sa_nil {Q : List S → Mem → Prop} (q : Q [] M) : SA X G [] env M Q := fun σ H R => ⟨_, pa_nil, [], M, Keep.refl, .nil, R.mem, q⟩
theorem sa_cons {Q : List S → Mem → Prop} (h : SE X G e env M fun x M1 => SA X G es env M1 fun xs M2 => Q (x :: xs) M2) (hs : starEach (e :: es) X.env = (false, eval e X.env) :: starEach es X.env := by rfl) : SA X G (e :: es) env M Q := fun σ H R =>
  ⟨_, pa_cons (te := tS X G e) pe_S pa_S hs, tS_go R h fun x M1 v H1 k1 rv R1 q1 => tSA_go R1 q1 fun xs M2 vs H2 k2 rvs R2 q2 => ⟨x :: xs, M2, k1.trans k2, .cons (rv.up k2) rvs, R2.mem, q2⟩⟩
theorem se_tup {x1} (h : SA X G es env M fun xs M1 => xs.length ≤ sizeLine ∧ Q (.tup xs) M1) : SE X G (.Tuple es x1 pos) env M Q := fun σ H R =>
  ⟨_, pe_tup pa_S, tSA_go R h fun xs M1 vs H1 k1 rvs R1 ⟨hl, q⟩ => ⟨by rw [← rvs.length]; exact hl, fun p hp =>
    ⟨.tup xs, M1, k1.trans (keep_new hp), .tup (.inl upd_same) (rvs.up (keep_new hp)), R1.mem.skip hp, q⟩⟩⟩
theorem put_lst {H : Hp} {p : Addr} {xs : List S} {vs : List V} (m : MemR X.K M H) (hp : H p = none) (rvs : RVs X.K H xs vs) : MemR X.K (updM M p (.lst xs)) (upd H p (.lst vs)) := m.put (keep_new hp) ⟨vs, upd_same, rvs.up (keep_new hp)⟩
theorem se_lst (h : SA X G es env M fun xs M1 => xs.length ≤ sizeLine ∧ ∀ p, M1 p = none → Q (.ptr p) (updM M1 p (.lst xs))) : SE X G (.List es pos) env M Q := fun σ H R =>
  ⟨_, pe_lst pa_S, tSA_go R h fun xs M1 vs H1 k1 rvs R1 ⟨hl, q⟩ => ⟨by rw [← rvs.length]; exact hl, fun p hp =>
    ⟨.ptr p, _, k1.trans (keep_new hp), .ptr p, put_lst R1.mem hp rvs, q p (R1.mem.free hp)⟩⟩⟩
/-! ### and, or, not, if -/
theorem st_of {Q : Bool → Mem → Prop} (h : SW X G e env M Q) : ST X G e env M Q := fun σ H R => by
  obtain ⟨t, p, q⟩ := h σ H R
  exact ⟨t, p.pt, q⟩
theorem sw_and1 {Q : Bool → Mem → Prop} (h : ST X G a env M Q) : SW X G (.BoolOp .And [a] pos) env M Q := fun σ H R => by
  obtain ⟨t, p, q⟩ := h σ H R
  exact ⟨t, pw_and1 p, q⟩
theorem sw_or1 {Q : Bool → Mem → Prop} (h : ST X G a env M Q) : SW X G (.BoolOp .Or [a] pos) env M Q := fun σ H R => by
  obtain ⟨t, p, q⟩ := h σ H R
  exact ⟨t, pw_or1 p, q⟩
theorem sw_and {Q : Bool → Mem → Prop} (h : ST X G a env M fun k M1 => (k = true → SW X G (.BoolOp .And (b :: es) pos) env M1 Q) ∧ (k = false → Q false M1)) : SW X G (.BoolOp .And (a :: b :: es) pos) env M Q := fun σ H R =>
  ⟨_, pw_and (tA := tST X G a) pt_S pw_S, tST_go R h fun k M1 H1 k1 R1 q => by
    cases k with
    | true => exact iteT (tSW_go R1 (q.1 rfl) fun k2 M2 H2 k2' R2 q2 => ⟨M2, k1.trans k2', R2.mem, q2⟩)
    | false => exact iteF ⟨M1, k1, R1.mem, q.2 rfl⟩⟩
theorem sw_or {Q : Bool → Mem → Prop} (h : ST X G a env M fun k M1 => (k = true → Q true M1) ∧ (k = false → SW X G (.BoolOp .Or (b :: es) pos) env M1 Q)) : SW X G (.BoolOp .Or (a :: b :: es) pos) env M Q := fun σ H R =>
  ⟨_, pw_or (tA := tST X G a) pt_S pw_S, tST_go R h fun k M1 H1 k1 R1 q => by
    cases k with
    | true => exact iteT ⟨M1, k1, R1.mem, q.1 rfl⟩
    | false => exact iteF (tSW_go R1 (q.2 rfl) fun k2 M2 H2 k2' R2 q2 => ⟨M2, k1.trans k2', R2.mem, q2⟩)⟩
theorem st_not {Q : Bool → Mem → Prop} (h : ST X G a env M fun k M1 => Q (!k) M1) : ST X G (.UnaryOp .Not a pos) env M Q := fun σ H R =>
  ⟨_, pt_not pt_S, tST_go R h fun k M1 H1 k1 R1 q => ⟨M1, k1, R1.mem, q⟩⟩
theorem se_one {op} (h : SE X G a env M Q) : SE X G (.BoolOp op [a] pos) env M Q := fun σ H R => by
  obtain ⟨t, p, q⟩ := h σ H R
  exact ⟨t, pe_one p, q⟩
theorem se_and (h : SE X G a env M fun x M1 => ∃ k, x = .bl k ∧ (k = true → SE X G (.BoolOp .And (b :: es) pos) env M1 Q) ∧ (k = false → Q (.bl false) M1)) : SE X G (.BoolOp .And (a :: b :: es) pos) env M Q := fun σ H R =>
  ⟨_, pe_and (ta := tS X G a) pe_S pe_S, tS_go R h fun x M1 v H1 k1 rv R1 ⟨k, e, q⟩ => by
    subst e
    cases rv
    refine ⟨k, rfl, ?_⟩
    cases k with
    | true => exact iteT (tS_go R1 (q.1 rfl) fun x2 M2 v2 H2 k2 rv2 R2 q2 => ⟨x2, M2, k1.trans k2, rv2, R2.mem, q2⟩)
    | false => exact iteF ⟨.bl false, M1, k1, .bl _, R1.mem, q.2 rfl⟩⟩
theorem se_or (h : SE X G a env M fun x M1 => ∃ k, x = .bl k ∧ (k = true → Q (.bl true) M1) ∧ (k = false → SE X G (.BoolOp .Or (b :: es) pos) env M1 Q)) : SE X G (.BoolOp .Or (a :: b :: es) pos) env M Q := fun σ H R =>
  ⟨_, pe_or (ta := tS X G a) pe_S pe_S, tS_go R h fun x M1 v H1 k1 rv R1 ⟨k, e, q⟩ => by
    subst e
    cases rv
    refine ⟨k, rfl, ?_⟩
    cases k with
    | true => exact iteT ⟨.bl true, M1, k1, .bl _, R1.mem, q.1 rfl⟩
    | false => exact iteF (tS_go R1 (q.2 rfl) fun x2 M2 v2 H2 k2 rv2 R2 q2 => ⟨x2, M2, k1.trans k2, rv2, R2.mem, q2⟩)⟩
theorem se_not (h : SE X G a env M fun x M1 => ∃ k, x = .bl k ∧ Q (.bl (!k)) M1) : SE X G (.UnaryOp .Not a pos) env M Q := fun σ H R =>
  ⟨_, pe_not (ta := tS X G a) pe_S, tS_go R h fun x M1 v H1 k1 rv R1 ⟨k, e, q⟩ => by
    subst e
    cases rv
    exact ⟨k, rfl, .bl (!k), M1, k1, .bl _, R1.mem, q⟩⟩
theorem se_if (h : ST X G c env M fun k M1 => (k = true → SE X G a env M1 Q) ∧ (k = false → SE X G b env M1 Q)) : SE X G (.IfExp c a b pos) env M Q := fun σ H R =>
  ⟨_, pe_ifExp (tA := tST X G c) pt_S pe_S pe_S, tST_go R h fun k M1 H1 k1 R1 q => by
    cases k with
    | true => exact iteT (tS_go R1 (q.1 rfl) fun x2 M2 v2 H2 k2 rv2 R2 q2 => ⟨x2, M2, k1.trans k2, rv2, R2.mem, q2⟩)
    | false => exact iteF (tS_go R1 (q.2 rfl) fun x2 M2 v2 H2 k2 rv2 R2 q2 => ⟨x2, M2, k1.trans k2, rv2, R2.mem, q2⟩)⟩
/-! ### a built-in by its name -/
theorem se_callB {x : Str} {id : String} {p : Pos} (hg : Gl X x) (hm : X.mg x = none) (hv : bootBuiltins x = some (.builtin id)) (h : SA X G (e :: es) env M fun xs M1 => RB X (.builtin id) xs M1 Q) (hn : x ≠ "__name__" := by decide) (hdb : (x == ("__debug__" : Str)) = false := by decide)
    (he : starEach (e :: es) X.env = (false, eval e X.env) :: starEach es X.env := by rfl) (hpl : (backTo pos (starEach es X.env)).any (·.1) = false := by rfl) : SE X G (.Call (.Name x p) (e :: es) [] pos) env M Q := fun σ H R =>
  ⟨_, pe_callB clr_any hg hm hv pa_S hn hdb he hpl, tSA_go R h fun xs M1 vs H1 k1 rvs R1 q => by
    obtain ⟨r, hr, q⟩ := q vs H1 R1.mem rvs
    exact ⟨_, r, hr, q, fun z H' p => p.back k1⟩⟩
theorem se_callT {x : Str} {T : String} {p : Pos} (hg : Gl X x) (hm : X.mg x = none) (hv : bootBuiltins x = some (.type T)) (h : SA X G (e :: es) env M fun xs M1 => RB X (.type T) xs M1 Q) (hn : x ≠ "__name__" := by decide) (hdb : (x == ("__debug__" : Str)) = false := by decide)
    (he : starEach (e :: es) X.env = (false, eval e X.env) :: starEach es X.env := by rfl) (hpl : (backTo pos (starEach es X.env)).any (·.1) = false := by rfl) : SE X G (.Call (.Name x p) (e :: es) [] pos) env M Q := fun σ H R =>
  ⟨_, pe_callTy clr_any hg hm hv pa_S hn hdb he hpl, tSA_go R h fun xs M1 vs H1 k1 rvs R1 q => by
    obtain ⟨r, hr, q⟩ := q vs H1 R1.mem rvs
    exact ⟨_, r, hr, q, fun z H' p => p.back k1⟩⟩
end
end Sy

set_option Elab.async false
set_option linter.all false
set_option maxRecDepth 100000
/-! S3: statements, loops, calls of own defs. -/
namespace Sy
open PySem PySem.Spec PyProof.Rows L2
section
variable {X : Cx} {G : Hp} {env : Ev} {M : Mem} {D : SD} {a b c e : Expr} {es : List Expr} {pos : Pos} {st : Stmt} {sts : List Stmt}
/-! ### blocks and small statements -/
theorem DLe.dr {D D' : SD} (h1 : ∀ v M, D.nx v M → D'.nx v M) (h2 : ∀ v M, D.rt v M → D'.rt v M) (h3 : ∀ v M, D.bk v M → D'.bk v M) (h4 : ∀ v M, D.ct v M → D'.ct v M) : DLe (Dr X G D) (Dr X G D') :=
  ⟨fun σ H ⟨v, M, r, q⟩ => ⟨v, M, r, h1 _ _ q⟩, fun v H ⟨s, M, k, r, m, q⟩ => ⟨s, M, k, r, m, h2 _ _ q⟩, fun σ H ⟨v, M, r, q⟩ => ⟨v, M, r, h3 _ _ q⟩, fun σ H ⟨v, M, r, q⟩ => ⟨v, M, r, h4 _ _ q⟩⟩
theorem sb_nil (q : D.nx env M) : SSs X G [] env M D := fun G1 kG σ H R => ⟨_, pss_nil, env, M, R, q⟩
theorem sb_cons (h : SS X G st env M { D with nx := fun v M' => SSs X G sts v M' D }) : SSs X G (st :: sts) env M D := fun G1 kG σ H R =>
  ⟨_, pss_cons (t := tSS X G st) ps_S (u := tSSs X G sts) pss_S, env, M, _, G1, kG, R, h, ⟨fun σ' H' ⟨v, M', r, q⟩ => ⟨v, M', D, G1, kG, r, q, DLe.refl⟩, fun _ _ q => q, fun _ _ q => q, fun _ _ q => q⟩⟩
theorem sb_one (h : SS X G st env M D) : SSs X G [st] env M D := fun G1 kG σ H R => by
  obtain ⟨t, p, q⟩ := h G1 kG σ H R
  exact ⟨t, pss_one p, q⟩
/-- a statement by a stronger end -/
theorem ss_le {D' : SD} (h : SS X G st env M D') (h1 : ∀ v M, D'.nx v M → D.nx v M) (h2 : ∀ v M, D'.rt v M → D.rt v M) (h3 : ∀ v M, D'.bk v M → D.bk v M) (h4 : ∀ v M, D'.ct v M → D.ct v M) : SS X G st env M D := fun G1 kG σ H R =>
  ⟨_, ps_S, env, M, D', G1, kG, R, h, DLe.dr h1 h2 h3 h4⟩
theorem sb_le {D' : SD} (h : SSs X G sts env M D') (h1 : ∀ v M, D'.nx v M → D.nx v M) (h2 : ∀ v M, D'.rt v M → D.rt v M) (h3 : ∀ v M, D'.bk v M → D.bk v M) (h4 : ∀ v M, D'.ct v M → D.ct v M) : SSs X G sts env M D := fun G1 kG σ H R =>
  ⟨_, pss_S, env, M, D', G1, kG, R, h, DLe.dr h1 h2 h3 h4⟩
theorem ss_pass (q : D.nx env M) : SS X G (.Pass pos) env M D := fun G1 kG σ H R => ⟨_, ps_pass, env, M, R, q⟩
theorem ss_break (q : D.bk env M) : SS X G (.Break pos) env M D := fun G1 kG σ H R => ⟨_, ps_break, env, M, R, q⟩
theorem ss_cont (q : D.ct env M) : SS X G (.Continue pos) env M D := fun G1 kG σ H R => ⟨_, ps_continue, env, M, R, q⟩
theorem ss_expr (h : SE X G e env M fun _ M' => D.nx env M') (hs : swapsWith e none pos.line X.env = pure false := by rfl) : SS X G (.Expr e pos) env M D := fun G1 kG σ H R =>
  ⟨_, ps_expr pe_S hs, tS_at kG R h fun s M' v H' k rv R' q => ⟨env, M', R', q⟩⟩
theorem ss_ret (h : SE X G e env M D.rt) : SS X G (.Return (some e) pos) env M D := fun G1 kG σ H R =>
  ⟨_, ps_ret pe_S, tS_at kG R h fun s M' v H' k rv R' q => ⟨s, M', R'.base, rv, R'.mem, q⟩⟩
theorem ss_retN (h : D.rt .non M) : SS X G (.Return none pos) env M D := fun G1 kG σ H R => ⟨_, ps_retN, .non, M, R.base, .non, R.mem, h⟩
theorem ss_if {A B : List Stmt} (h : ST X G c env M fun k M1 => (k = true → SSs X G A env M1 D) ∧ (k = false → SSs X G B env M1 D)) : SS X G (.If c A B pos) env M D := fun G1 kG σ H R =>
  ⟨_, ps_if (tc := tST X G c) pt_S (t := tSSs X G A) pss_S (u := tSSs X G B) pss_S, tST_at kG R h fun k M1 H1 k1 R1 q => by
    cases k with
    | true => exact iteT ⟨env, M1, D, G1, kG, R1, q.1 rfl, DLe.refl⟩
    | false => exact iteF ⟨env, M1, D, G1, kG, R1, q.2 rfl, DLe.refl⟩⟩
/-! ### targets -/
def DnK (X : Cx) (G H : Hp) (n : Ev → Mem → Prop) : L2.St → Hp → Prop := fun σ' H' => Keep X.K H H' ∧ Dn X G n σ' H'
def SG (X : Cx) (G : Hp) (tg : Expr) (s : S) (env : Ev) (M : Mem) (n : Ev → Mem → Prop) : Prop := ∀ G1, Keep X.K G G1 → ∀ v σ H, Rel X.K G1 env M σ H → RV X.K H s v → ∃ g, PG X tg g ∧ g v σ H (DnK X G1 H n)
def SGs (X : Cx) (G : Hp) (tg : List Expr) (s : List S) (env : Ev) (M : Mem) (n : Ev → Mem → Prop) : Prop := ∀ G1, Keep X.K G G1 → ∀ v σ H, Rel X.K G1 env M σ H → RVs X.K H s v → ∃ g, PGs X tg g ∧ g v σ H (DnK X G1 H n)
def tSG (X : Cx) (G : Hp) (tg : Expr) : TG := fun v σ H R => ∃ s env M n G1, Keep X.K G G1 ∧ Rel X.K G1 env M σ H ∧ RV X.K H s v ∧ SG X G tg s env M n ∧ ∀ σ' H', DnK X G1 H n σ' H' → R σ' H'
def tSGs (X : Cx) (G : Hp) (tg : List Expr) : TGs := fun v σ H R => ∃ s env M n G1, Keep X.K G G1 ∧ Rel X.K G1 env M σ H ∧ RVs X.K H s v ∧ SGs X G tg s env M n ∧ ∀ σ' H', DnK X G1 H n σ' H' → R σ' H'
theorem pg_S {tg : Expr} : PG X tg (tSG X G tg) := ⟨fun pins s σ H v u R I rv h => by
  obtain ⟨s, env, M, n, G1, kG, r, hv, hs, k⟩ := h
  obtain ⟨g, p, hg⟩ := hs G1 kG v σ H r hv
  exact thn (p.run pins _ σ H v u _ I rv hg) fun _ s1 ⟨σ', H', I', q⟩ => ⟨σ', H', I', k _ _ q⟩⟩
theorem pgs_S {tg : List Expr} : PGs X tg (tSGs X G tg) := ⟨fun pins s σ H v u R I rv h => by
  obtain ⟨s, env, M, n, G1, kG, r, hv, hs, k⟩ := h
  obtain ⟨g, p, hg⟩ := hs G1 kG v σ H r hv
  exact thn (p.run pins _ σ H v u _ I rv hg) fun _ s1 ⟨σ', H', I', q⟩ => ⟨σ', H', I', k _ _ q⟩⟩
variable {n : Ev → Mem → Prop} {s : S} {ss : List S}
theorem sg_name {i : Nat} {x : Str} (q : n (env.set i (some s)) M) (hN : X.N.Nodup) (hi : X.N[i]? = some x) (hx : Loc X.env.scope x) (hf : X.fn x = true ∨ X.env.scope.names.lookup x = some .local := by first | exact .inl rfl | exact .inr rfl | assumption) : SG X G (.Name x pos) s env M n := fun G1 kG v σ H R hv =>
  ⟨_, pg_name hN hi hx hf, Keep.refl, env.set i (some s), M, R.set hv i, q⟩
theorem sgs_nil (q : n env M) : SGs X G [] [] env M n := fun G1 kG v σ H R hv => by
  cases hv
  exact ⟨_, pgs_nil, rfl, Keep.refl, env, M, R, q⟩
theorem sgs_cons (h : SG X G e s env M fun env' M' => SGs X G es ss env' M' n) (hs : (assignEach (e :: es) X.env).map (·.2) = assign e X.env :: (assignEach es X.env).map (·.2) := by rfl) : SGs X G (e :: es) (s :: ss) env M n := fun G1 kG v σ H R hv => by
  cases hv with
  | cons h1 h2 =>
    exact ⟨_, pgs_cons (pg_S (G := G)) (pgs_S (G := G)) hs, _, _, rfl, s, env, M, _, G1, kG, R, h1, h, fun σ' H' ⟨k, env', M', R', q⟩ => ⟨ss, env', M', n, G1, kG, R', h2.up k, q, fun σ2 H2 ⟨k2, d⟩ => ⟨k.trans k2, d⟩⟩⟩
theorem sg_tup {kk : Nat} (h : SGs X G es ss env M n) (hc : X.calm = true := by rfl) (hn : (assignEach es X.env).length = ss.length := by rfl) (hst : (assignEach es X.env).findIdx? (·.1) = none := by rfl) : SG X G (.Tuple es kk pos) (.tup ss) env M n := fun G1 kG v σ H R hv => by
  cases hv with
  | tup h1 h2 =>
    obtain ⟨g, p, q⟩ := h G1 kG _ σ H R h2
    exact ⟨_, pg_tup hc p hn hst, _, _, rfl, h1.sq, h2.length.symm, q⟩
/-- target = e -/
theorem ss_asg {tg : Expr} (h : SE X G e env M fun s M' => SG X G tg s env M' D.nx) (hs : swapsWithSole [tg] e pos.line X.env = pure false := by rfl) (hw : swappedStores [tg] e X.env = pure none := by rfl)
    (h1 : (assignEach [tg] X.env).map (·.2) = [assign tg X.env] := by rfl) : SS X G (.Assign [tg] e pos) env M D := fun G1 kG σ H R =>
  ⟨_, ps_asg pe_S (pg_S (G := G)) hs hw h1, tS_at kG R h fun s M' v H' k rv R' q => ⟨s, env, M', _, G1, kG, R', rv, q, fun _ _ z => z.2⟩⟩
theorem ss_set {i : Nat} {x : Str} {pos' : Pos} (h : SE X G e env M fun s M' => D.nx (env.set i (some s)) M') (hN : X.N.Nodup) (hi : X.N[i]? = some x) (hx : Loc X.env.scope x) (hs : swapsWith e (some (.Name x pos')) pos.line X.env = pure false := by rfl)
    (hf : X.fn x = true ∨ X.env.scope.names.lookup x = some .local := by first | exact .inl rfl | exact .inr rfl | assumption) : SS X G (.Assign [.Name x pos'] e pos) env M D := fun G1 kG σ H R =>
  ⟨_, ps_set hN hi hx pe_S hs hf, tS_at kG R h fun s M' v H' k rv R' q => ⟨env.set i (some s), M', R'.set rv i, q⟩⟩
/-- a, b = e1, e2, local names -/
theorem ss_par {i j : Nat} {x y : Str} {px py pt : Pos} {kt k2 pt2} (h : SA X G [a, b] env M fun vs M' => ∃ v w, vs = [v, w] ∧ D.nx ((env.set i (some v)).set j (some w)) M') (hN : X.N.Nodup) (hi : X.N[i]? = some x) (hj : X.N[j]? = some y) (hij : i ≠ j)
    (hx : X.env.scope.names.lookup x = some .local) (hy : X.env.scope.names.lookup y = some .local) (hw : swappedStores [.Tuple [.Name x px, .Name y py] kt pt] (.Tuple [a, b] k2 pt2) X.env = pure (some [x, y])) (hc : X.calm = true := by rfl)
    (hs : swapsWithSole [.Tuple [.Name x px, .Name y py] kt pt] (.Tuple [a, b] k2 pt2) pos.line X.env = pure false := by rfl) : SS X G (.Assign [.Tuple [.Name x px, .Name y py] kt pt] (.Tuple [a, b] k2 pt2) pos) env M D := fun G1 kG σ H R =>
  ⟨_, ps_par hc hN hi hj hij hx hy pa_S hw hs, tSA_at kG R h fun ss M' vs H' k rvs R' ⟨v, w, e, q⟩ => by
    subst e
    cases rvs with
    | cons r1 t =>
      cases t with
      | cons r2 t => cases t; exact ⟨_, _, rfl, _, M', (R'.set r1 i).set r2 j, q⟩⟩
/-! ### what is walked -/
/-- an iterator J that hands out xs as long as Gd holds of the store -/
structure Gives (K : PySem.W.Frag) (J : It) (H1 : Hp) (xs : List S) (Gd : Mem → Prop) : Prop where
  go : ∀ i M' H', MemR K M' H' → Keep K H1 H' → Gd M' → i < xs.length → J.go i H'
  yld : ∀ i M' H' v H'', MemR K M' H' → Keep K H1 H' → Gd M' → i < xs.length → J.yld i H' v H'' → ∃ s, xs[i]? = some s ∧ RV K H'' s v ∧ Keep K H' H'' ∧ MemR K M' H''
  stop : ∀ M' H', MemR K M' H' → Keep K H1 H' → Gd M' → J.stop xs.length H'
def PostI (X : Cx) (H : Hp) (Q : List S → (Mem → Prop) → Mem → Prop) : It → Hp → Prop := fun J H1 => ∃ xs Gd M1, Keep X.K H H1 ∧ MemR X.K M1 H1 ∧ Gives X.K J H1 xs Gd ∧ Q xs Gd M1
def SI (X : Cx) (G : Hp) (tg iter : Expr) (env : Ev) (M : Mem) (Q : List S → (Mem → Prop) → Mem → Prop) : Prop := ∀ σ H, Rel X.K G env M σ H → ∃ wi, PI X tg iter wi ∧ wi σ H (PostI X H Q)
def tSI (X : Cx) (G : Hp) (tg iter : Expr) : TI := fun σ H R => ∃ env M Q, Rel X.K G env M σ H ∧ SI X G tg iter env M Q ∧ ∀ J H', PostI X H Q J H' → R J H'
theorem pi_S {tg iter : Expr} : PI X tg iter (tSI X G tg iter) := ⟨fun pins s σ H R I h => by
  obtain ⟨env, M, Q, r, hs, k⟩ := h
  obtain ⟨t, p, ht⟩ := hs σ H r
  exact thn (p.run pins s σ H _ I ht) fun v s1 h1 => thn h1 fun itv s2 ⟨it, fp, tn, J, H', e, I', T, st, f, q⟩ => ⟨it, fp, tn, J, H', e, I', T, st, f, k _ _ q⟩⟩
theorem si_tup {tg : Expr} {Q : List S → (Mem → Prop) → Mem → Prop} (h : SE X G e env M fun s M1 => ∃ xs, s = .tup xs ∧ Q xs (fun _ => True) M1) : SI X G tg e env M Q := fun σ H R =>
  ⟨_, pi_tup pe_S, tS_go R h fun s M1 v H1 k rv R1 ⟨xs, e, q⟩ => by
    subst e
    cases rv with
    | @tup a vs _ h1 h2 =>
      refine ⟨a, rfl, ⟨_, h1.sq⟩, xs, _, M1, k, R1.mem, ⟨fun i M' H' m k' _ hi => ?_, fun i M' H' v H'' m k' _ hi y => ?_, fun M' H' m k' _ => ?_⟩, q⟩
      · have hi' : i < vs.length := by rw [← h2.length]; exact hi
        exact ⟨vs, vs[i], (k'.tup _ _ h1).sq, by simp [hi']⟩
      · obtain ⟨rfl, y⟩ := y
        obtain ⟨s, e1, r1⟩ := h2.getV (y _ (k'.tup _ _ h1).sq)
        exact ⟨s, e1, r1.up k', Keep.refl, m⟩
      · exact ⟨vs, (k'.tup _ _ h1).sq, by rw [h2.length]; exact Nat.le_refl _⟩⟩
theorem si_lst {tg : Expr} {Q : List S → (Mem → Prop) → Mem → Prop} (h : SE X G e env M fun s M1 => ∃ p xs, s = .ptr p ∧ M1 p = some (.lst xs) ∧ Q xs (fun M' => M' p = some (.lst xs)) M1) : SI X G tg e env M Q := fun σ H R =>
  ⟨_, pi_list pe_S, tS_go R h fun s M1 v H1 k rv R1 ⟨p, xs, e, hp, q⟩ => by
    subst e
    cases rv
    obtain ⟨vs0, h10, _⟩ := R1.mem p _ hp
    refine ⟨p, rfl, ⟨_, SqL.of h10⟩, xs, _, M1, k, R1.mem, ⟨fun i M' H' m k' g hi => ?_, fun i M' H' v H'' m k' g hi y => ?_, fun M' H' m k' g => ?_⟩, q⟩
    · obtain ⟨vs, h1, h2⟩ := m p _ g
      have hi' : i < vs.length := by rw [← h2.length]; exact hi
      exact ⟨vs, vs[i], SqL.of h1, by simp [hi']⟩
    · obtain ⟨vs, h1, h2⟩ := m p _ g
      obtain ⟨rfl, y⟩ := y
      obtain ⟨s, e1, r1⟩ := h2.getV (y _ (SqL.of h1))
      exact ⟨s, e1, r1, Keep.refl, m⟩
    · obtain ⟨vs, h1, h2⟩ := m p _ g
      exact ⟨vs, SqL.of h1, by rw [h2.length]; exact Nat.le_refl _⟩⟩
theorem si_rdl {tg : Expr} {Q : List S → (Mem → Prop) → Mem → Prop} (h : SE X G e env M fun s M1 => ∃ xs, s = .rdl xs ∧ Q xs (fun _ => True) M1) : SI X G tg e env M Q := fun σ H R =>
  ⟨_, pi_list pe_S, tS_go R h fun s M1 v H1 k rv R1 ⟨xs, e, q⟩ => by
    subst e
    cases rv with
    | @rdl a vs _ h1 h2 =>
      refine ⟨a, rfl, ⟨_, h1.sq⟩, xs, _, M1, k, R1.mem, ⟨fun i M' H' m k' _ hi => ?_, fun i M' H' v H'' m k' _ hi y => ?_, fun M' H' m k' _ => ?_⟩, q⟩
      · have hi' : i < vs.length := by rw [← h2.length]; exact hi
        exact ⟨vs, vs[i], (k'.fzl _ _ h1).sq, by simp [hi']⟩
      · obtain ⟨rfl, y⟩ := y
        obtain ⟨s, e1, r1⟩ := h2.getV (y _ (k'.fzl _ _ h1).sq)
        exact ⟨s, e1, r1.up k', Keep.refl, m⟩
      · exact ⟨vs, (k'.fzl _ _ h1).sq, by rw [h2.length]; exact Nat.le_refl _⟩⟩
/-- lo, lo + 1, .. -/
def rgS (lo : Int) (n : Nat) : List S := (List.range n).map fun (k : Nat) => S.int (lo + (k : Int))
theorem rgS_len {lo : Int} {n : Nat} : (rgS lo n).length = n := by unfold rgS; simp
theorem rgS_get {lo : Int} {n i : Nat} {s : S} (h : (rgS lo n)[i]? = some s) : i < n ∧ s = .int (lo + i) := by
  unfold rgS at h
  rw [List.getElem?_map] at h
  by_cases hi : i < n
  · rw [List.getElem?_range hi] at h
    exact ⟨hi, (Option.some.inj h).symm⟩
  · rw [List.getElem?_eq_none (by simpa using hi)] at h
    cases h
theorem rgS_at {lo : Int} {n i : Nat} (h : i < n) : (rgS lo n)[i]? = some (.int (lo + i)) := by
  unfold rgS
  rw [List.getElem?_map, List.getElem?_range h]
  rfl
theorem gives_rg {K : PySem.W.Frag} {H1 : Hp} {lo : Int} {n : Nat} : Gives K (Itr lo n) H1 (rgS lo n) (fun _ => True) :=
  ⟨fun i M' H' m k' _ hi => (by rw [rgS_len] at hi; exact hi), fun i M' H' v H'' m k' _ hi ⟨e1, e2⟩ => by
    rw [rgS_len] at hi
    subst e1 e2
    exact ⟨_, rgS_at hi, .int _, Keep.refl, m⟩, fun M' H' m k' _ => by rw [rgS_len]; exact Nat.le_refl _⟩
theorem si_range1 {tg : Expr} {p : Pos} {Q : List S → (Mem → Prop) → Mem → Prop} (hg : Gl X "range") (hm : X.mg "range" = none) (h : SE X G a env M fun s M1 => ∃ j : Int, s = .int j ∧ j < 2 ^ 62 ∧ -(2 ^ 62) ≤ j ∧ Q (rgS 0 j.toNat) (fun _ => True) M1)
    (hs : starEach [a] X.env = [(false, eval a X.env)] := by rfl) : SI X G tg (.Call (.Name "range" p) [a] [] pos) env M Q := fun σ H R =>
  ⟨_, pi_range1 hg hm (pa_cons (te := tS X G a) pe_S pa_nil hs) hs, tS_go R h fun s M1 v H1 k rv R1 ⟨j, e, b1, b2, q⟩ => by
    subst e
    cases rv
    exact ⟨j, rfl, b2, b1, _, _, M1, k, R1.mem, gives_rg, q⟩⟩
theorem si_range2 {tg : Expr} {p : Pos} {Q : List S → (Mem → Prop) → Mem → Prop} (hg : Gl X "range") (hm : X.mg "range" = none) (h : SE X G a env M fun s M1 => SE X G b env M1 fun s2 M2 => ∃ i j : Int, s = .int i ∧ s2 = .int j ∧ (-(2 ^ 62) ≤ i ∧ i < 2 ^ 62 ∧ -(2 ^ 62) ≤ j ∧ j < 2 ^ 62) ∧ Q (rgS i (j - i).toNat) (fun _ => True) M2)
    (hs : starEach [a, b] X.env = [(false, eval a X.env), (false, eval b X.env)] := by rfl) (hs2 : starEach [b] X.env = [(false, eval b X.env)] := by rfl) : SI X G tg (.Call (.Name "range" p) [a, b] [] pos) env M Q := fun σ H R =>
  ⟨_, pi_range2 hg hm (pa_cons (te := tS X G a) pe_S (pa_cons (te := tS X G b) pe_S pa_nil hs2) (by rw [hs, hs2])) hs hs2, tS_go R h fun s M1 v H1 k rv R1 q1 => tS_go R1 q1 fun s2 M2 v2 H2 k2 rv2 R2 ⟨i, j, e1, e2, b1, q⟩ => by
    subst e1 e2
    cases rv
    cases rv2
    exact ⟨i, j, rfl, b1, _, _, M2, k.trans k2, R2.mem, gives_rg, q⟩⟩
/-- for -/
theorem ss_for {tg iter : Expr} {body : List Stmt} (h : SI X G tg iter env M fun xs Gd M1 => ∃ I : Nat → Ev → Mem → Prop, I 0 env M1 ∧ (∀ i v M', I i v M' → Gd M') ∧
      (∀ i x v M', xs[i]? = some x → I i v M' → SG X G tg x v M' fun v2 M2 => SSs X G body v2 M2 { nx := I (i + 1), ct := I (i + 1), bk := D.nx, rt := D.rt }) ∧ ∀ v M', I xs.length v M' → D.nx v M')
    (hp : PassesOwn (model X.prog X.w) X.A X.env X.xe) (hc : X.calm = true := by rfl) (hs : ∀ x, foldedSetIterable iter X.env x = pure x := by intro _; rfl) : SS X G (.For tg iter body [] pos) env M D := fun G1 kG σ H R => by
  refine ⟨_, ps_for hp hc (pi_S (G := G)) (pg_S (G := G)) (pss_S (G := G)) hs, env, M, _, R.weak kG, h, fun J H1 ⟨xs, Gd, M1, k1, m1, gv, I, i0, ig, turn, fin⟩ => ?_⟩
  have kG1 : Keep X.K G1 H1 := R.base.trans k1
  refine ⟨fun i m σ' H' => m = xs.length - i ∧ i ≤ xs.length ∧ ∃ v M', Rel X.K H1 v M' σ' H' ∧ I i v M', ⟨xs.length, rfl, Nat.zero_le _, env, M1, ⟨Keep.refl, R.env.up k1, m1⟩, i0⟩, ?_⟩
  rintro i m σ' H' ⟨rfl, hi, v, M', R', hI⟩
  by_cases hlt : i < xs.length
  · refine .inr ⟨gv.go i M' H' R'.mem R'.base (ig _ _ _ hI) hlt, fun σ2 H2 => ∃ v M', Rel X.K H1 v M' σ2 H2 ∧ I (i + 1) v M', fun σ2 H2 ⟨v2, M2, r2, q2⟩ => ⟨xs.length - (i + 1), by omega, rfl, hlt, v2, M2, r2, q2⟩, fun x H'' y => ?_⟩
    obtain ⟨s, e, rs, k2, m2⟩ := gv.yld i M' H' x H'' R'.mem R'.base (ig _ _ _ hI) hlt y
    refine ⟨s, v, M', _, H1, kG.trans kG1, R'.step k2 m2, rs, turn i s v M' e hI, fun σ2 H2 ⟨_, v2, M2, r2, q2⟩ => ?_⟩
    refine ⟨v2, M2, _, H1, kG.trans kG1, r2, q2, ⟨fun _ _ z => z, fun w H3 ⟨s, M3, k3, a, b, c⟩ => ⟨s, M3, kG1.trans k3, a, b, c⟩, fun σ3 H3 ⟨v3, M3, r3, q3⟩ => ⟨v3, M3, r3.weak kG1, q3⟩, fun _ _ z => z⟩⟩
  · have e : i = xs.length := by omega
    subst e
    exact .inl ⟨gv.stop M' H' R'.mem R'.base (ig _ _ _ hI), v, M', R'.weak kG1, fin v M' hI⟩
/-- while, with a measure -/
theorem ss_while {body : List Stmt} (I : Nat → Ev → Mem → Prop) (h0 : ∃ m, I m env M) (turn : ∀ m v M', I m v M' → ST X G c v M' fun k M1 => (k = true → SSs X G body v M1 { nx := fun v2 M2 => ∃ m', m' < m ∧ I m' v2 M2, ct := fun v2 M2 => ∃ m', m' < m ∧ I m' v2 M2, bk := D.nx, rt := D.rt }) ∧ (k = false → D.nx v M1))
    (hp : PassesOwn (model X.prog X.w) X.A X.env X.xe) : SS X G (.While c body [] pos) env M D := fun G1 kG σ H R => by
  refine ⟨_, ps_while hp (pt_S (G := G)) (pss_S (G := G)), fun m σ' H' => ∃ v M', Rel X.K G1 v M' σ' H' ∧ I m v M', ?_, fun m σ' H' ⟨v, M', R', hI⟩ => ?_⟩
  · obtain ⟨m, hm⟩ := h0
    exact ⟨m, env, M, R, hm⟩
  · refine tST_at kG R' (turn m v M' hI) fun k M1 H1 k1 R1 q => ?_
    cases k with
    | true =>
      refine iteT ⟨fun σ2 H2 => ∃ v M', Rel X.K G1 v M' σ2 H2 ∧ ∃ m', m' < m ∧ I m' v M', fun σ2 H2 ⟨v2, M2, r2, m', hm, q2⟩ => ⟨m', hm, v2, M2, r2, q2⟩, v, M1, _, G1, kG, R1, q.1 rfl, ⟨fun _ _ z => z, fun _ _ z => z, fun _ _ z => z, fun _ _ z => z⟩⟩
    | false => exact iteF ⟨v, M1, R1, q.2 rfl⟩
end
end Sy

set_option Elab.async false
set_option linter.all false
set_option maxRecDepth 100000
/-! S4: comprehensions; what operators and built-ins do with symbolic values. -/
namespace Sy
open PySem PySem.Spec PyProof.Rows L2
section
variable {X : Cx} {G : Hp} {env : Ev} {M : Mem} {D : SD} {Q : QS} {a b c e : Expr} {es : List Expr} {pos : Pos}
/-! ### comprehensions -/
def wipeE (env : Ev) : List Nat → Ev
  | [] => env
  | v :: vs => (wipeE env vs).set v none
theorem EnvR.wipe {K : PySem.W.Frag} {H : Hp} {es : Ev} {os : L2.St} (r : EnvR K H es os) : ∀ vs : List Nat, EnvR K H (wipeE es vs) (wipe os vs)
  | [] => r
  | v :: vs => (EnvR.wipe r vs).forget v
theorem Rel.wipe {K : PySem.W.Frag} {G : Hp} {env : Ev} {M : Mem} {σ : L2.St} {H : Hp} (r : Rel K G env M σ H) (vs : List Nat) : Rel K G (wipeE env vs) M (L2.wipe σ vs) H := ⟨r.base, r.env.wipe vs, r.mem⟩
theorem wipe_set {σ : L2.St} {v : V} : ∀ {vs : List Nat} {i : Nat}, i ∈ vs → wipe ((wipe σ vs).set i (some v)) vs = wipe σ vs := by
  have g : ∀ (vs : List Nat) (τ : L2.St) (i : Nat), i ∈ vs → wipe (τ.set i (some v)) vs = wipe τ vs := by
    intro vs
    induction vs with
    | nil => intro τ i h; cases h
    | cons j vs ih =>
      intro τ i h
      show (wipe (τ.set i (some v)) vs).set j none = (wipe τ vs).set j none
      by_cases hi : i ∈ vs
      · rw [ih τ i hi]
      · have e : i = j := by
          rcases List.mem_cons.mp h with h | h
          · exact h
          · exact absurd h hi
        subst e
        have q : ∀ (ws : List Nat) (τ : L2.St), i ∉ ws → wipe (τ.set i (some v)) ws = (wipe τ ws).set i (some v) := by
          intro ws
          induction ws with
          | nil => intro τ _; rfl
          | cons k ws ih2 =>
            intro τ h2
            have h3 := not_or.mp (fun z => h2 (List.mem_cons.mpr z))
            show (wipe (τ.set i (some v)) ws).set k none = ((wipe τ ws).set k none).set i (some v)
            rw [ih2 τ h3.2, List.set_comm _ _ h3.1]
        rw [q vs τ hi, List.set_set]
  have w2 : ∀ (vs : List Nat) (τ : L2.St), wipe (wipe τ vs) vs = wipe τ vs := by
    intro vs τ
    apply List.ext_getElem?
    intro k
    have key : ∀ (vs : List Nat) (τ : L2.St), (wipe τ vs)[k]? = if k ∈ vs ∧ k < τ.length then some none else τ[k]? := by
      intro vs
      induction vs with
      | nil => intro τ; show τ[k]? = _; simp
      | cons j vs ih =>
        intro τ
        show ((wipe τ vs).set j none)[k]? = _
        rw [List.getElem?_set]
        by_cases hj : j = k
        · subst hj
          rw [wipe_length]
          by_cases hl : j < τ.length <;> simp [hl]
        · rw [if_neg hj, ih]
          simp [Ne.symm hj]
    rw [key, key, wipe_length]
    split <;> rfl
  intro vs i h
  rw [g vs _ i h, w2]
def SEb (X : Cx) (G : Hp) (scope : Scope) (e : Expr) (env : Ev) (M : Mem) (Q : QS) : Prop := ∀ (s : Shared) (H : Hp) (C : Addr) (cl : List (Str × Addr)) (fp : List Addr), SE (X.blk s H scope (compEnvC scope cl C X.env) fp) G e env M Q
def STb (X : Cx) (G : Hp) (scope : Scope) (e : Expr) (env : Ev) (M : Mem) (Q : Bool → Mem → Prop) : Prop := ∀ (s : Shared) (H : Hp) (C : Addr) (cl : List (Str × Addr)) (fp : List Addr), ST (X.blk s H scope (compEnvC scope cl C X.env) fp) G e env M Q
def tSEb (X : Cx) (G : Hp) (scope : Scope) (e : Expr) : TE := fun σ H R => ∃ env M Q, Rel X.K G env M σ H ∧ SEb X G scope e env M Q ∧ ∀ v H', PostE X H Q v H' → R v H'
def tSTb (X : Cx) (G : Hp) (scope : Scope) (e : Expr) : TT := fun σ H R => ∃ env M Q, Rel X.K G env M σ H ∧ STb X G scope e env M Q ∧ ∀ v H', PostT X H Q v H' → R v H'
theorem pe_Sb {scope : Scope} {s : Shared} {H : Hp} {C : Addr} {cl : List (Str × Addr)} {fp : List Addr} : PE (X.blk s H scope (compEnvC scope cl C X.env) fp) e (tSEb X G scope e) := ⟨fun pins s1 σ H1 R I h => by
  obtain ⟨env, M, Q, r, hs, k⟩ := h
  exact (pe_S (X := X.blk s H scope (compEnvC scope cl C X.env) fp) (G := G)).run pins s1 σ H1 R I ⟨env, M, Q, r, hs s H C cl fp, k⟩⟩
theorem pt_Sb {scope : Scope} {s : Shared} {H : Hp} {C : Addr} {cl : List (Str × Addr)} {fp : List Addr} : PT (X.blk s H scope (compEnvC scope cl C X.env) fp) e (tSTb X G scope e) := ⟨fun pins s1 σ H1 R I h => by
  obtain ⟨env, M, Q, r, hs, k⟩ := h
  exact (pt_S (X := X.blk s H scope (compEnvC scope cl C X.env) fp) (G := G)).run pins s1 σ H1 R I ⟨env, M, Q, r, hs s H C cl fp, k⟩⟩
/-- what one turn of a comprehension keeps; I holds of the items so far and the store, the list at D within -/
structure LcI (D : Addr) (I : Nat → List S → Mem → Prop) (i : Nat) (M : Mem) : Prop where
  ex : ∃ acc, M D = some (.lst acc) ∧ I i acc M
def LcQ (D : Addr) (acc : List S) (n : List S → Mem → Prop) : QS := fun y M => M D = some (.lst acc) ∧ acc.length < sizeLine ∧ n (acc ++ [y]) (updM M D (.lst (acc ++ [y])))
theorem lcq_ok {H0 H : Hp} {D : Addr} {acc : List S} {n : List S → Mem → Prop} {v : V} {H' : Hp} (k0 : Keep X.K H0 H) (h : PostE X H (LcQ D acc n) v H') : ∃ vs, H' D = some (.lst vs) ∧ vs.length < sizeLine ∧ ∃ acc' M', MemR X.K M' (upd H' D (.lst (vs ++ [v]))) ∧ Keep X.K H0 (upd H' D (.lst (vs ++ [v]))) ∧ M' D = some (.lst acc') ∧ n acc' M' := by
  obtain ⟨s, M', k, rv, m, hD, hl, q⟩ := h
  obtain ⟨vs, h1, h2⟩ := m D _ hD
  have kk := keep_lst (K := X.K) (o := .lst (vs ++ [v])) h1
  exact ⟨vs, h1, by rw [← h2.length]; exact hl, _, _, m.put (u := .lst (acc ++ [s])) kk ⟨_, upd_same, (h2.append (.cons rv .nil)).up kk⟩, (k0.trans k).trans kk, updM_same, q⟩
/-- [elt for x in iter], x the name in slot i -/
theorem se_lc {elt iter : Expr} {scope : Scope} {own : List (Str × Nat)} {i : Nat} {x : Str} {px : Pos} (h : SI X G (.Name x px) iter env M fun xs Gd M1 => ∀ D, M1 D = none → ∃ I : Nat → List S → Mem → Prop, I 0 [] (updM M1 D (.lst [])) ∧ (∀ j acc M', M' D = some (.lst acc) → I j acc M' → Gd M') ∧
      (∀ j s acc M', xs[j]? = some s → M' D = some (.lst acc) → I j acc M' → SEb X G scope elt ((wipeE env (own.map (·.2))).set i (some s)) M' (LcQ D acc (I (j + 1)))) ∧ ∀ acc M', M' D = some (.lst acc) → I xs.length acc M' → Q (.ptr D) M')
    (hN : X.N.Nodup) (hi : X.N[i]? = some x) (hm : i ∈ own.map (·.2)) (ok : BlkOk X.N X.env.scope scope own) (hf : scope.names.lookup x = some .local) (hc : X.calm = true := by rfl) (hs : ∀ x, foldedSetIterable iter X.env x = pure x := by intro _; rfl) :
    SE X G (.ListComp elt [⟨.Name x px, iter, [], 0⟩] scope pos) env M Q := fun σ H R => by
  refine ⟨_, pe_lc (own := own) (tt := tYes) (te := tSEb X G scope elt) (g := gName i) hc hN (pi_S (G := G)) ok (fun s H C cl fp => pg_name (X := X.blk s H scope (compEnvC scope cl C X.env) fp) hN hi (.inl (PySem.lookup_relabel_local hf)) (.inr (PySem.lookup_relabel_local hf))) (fun _ _ _ _ _ => pts_nil) (fun _ _ _ _ _ => pe_Sb) hs, env, M, _, R, h, fun J H1 ⟨xs, Gd, M1, k1, m1, gv, q⟩ D hD => ?_⟩
  obtain ⟨I, i0, ig, turn, fin⟩ := q D (m1.free hD)
  refine ⟨fun j m H' => m = xs.length - j ∧ j ≤ xs.length ∧ ∃ acc M', MemR X.K M' H' ∧ Keep X.K H1 H' ∧ M' D = some (.lst acc) ∧ I j acc M', ⟨xs.length, rfl, Nat.zero_le _, [], _, put_lst m1 hD .nil, keep_new hD, updM_same, i0⟩, ?_⟩
  rintro j m H' ⟨rfl, hj, acc, M', m', k', hMD, hI⟩
  by_cases hlt : j < xs.length
  · refine .inr ⟨gv.go j M' H' m' k' (ig _ _ _ hMD hI) hlt, fun H2 => ∃ acc M', MemR X.K M' H2 ∧ Keep X.K H1 H2 ∧ M' D = some (.lst acc) ∧ I (j + 1) acc M', fun H2 z => ⟨xs.length - (j + 1), by omega, rfl, hlt, z⟩, fun v H'' y => ?_⟩
    obtain ⟨s, es, rs, k2, m2⟩ := gv.yld j M' H' v H'' m' k' (ig _ _ _ hMD hI) hlt y
    have kk := k1.trans (k'.trans k2)
    refine ⟨wipe_set hm, ?_⟩
    dsimp only [tYes]
    rw [if_pos rfl]
    refine ⟨_, M', _, ?_, turn j s acc M' es hMD hI, fun w H3 p => ?_⟩
    · exact (((R.step kk m2).wipe _).set rs i)
    · obtain ⟨vs, a1, a2, acc', M3, a3, a4, a5, a6⟩ := lcq_ok (k'.trans k2) p
      exact ⟨vs, a1, a2, acc', M3, a3, a4, a5, a6⟩
  · have e : j = xs.length := by omega
    subst e
    exact .inl ⟨gv.stop M' H' m' k' (ig _ _ _ hMD hI), .ptr D, M', k1.trans k', .ptr D, m', fin acc M' hMD hI⟩

/-! ### operators by values -/
theorem ro_addI {i j : Int} (q : Q (.int (i + j)) M) : RO X .Add (.int i) (.int j) M Q := fun v w H m r1 r2 => by
  cases r1; cases r2; exact ⟨_, op_add, i, j, rfl, rfl, pack (.int _) m q⟩
theorem ro_subI {i j : Int} (q : Q (.int (i - j)) M) : RO X .Sub (.int i) (.int j) M Q := fun v w H m r1 r2 => by
  cases r1; cases r2; exact ⟨_, op_sub, i, j, rfl, rfl, pack (.int _) m q⟩
theorem ro_mulI {i j : Int} (h : CMul i j) (q : Q (.int (i * j)) M) : RO X .Mult (.int i) (.int j) M Q := fun v w H m r1 r2 => by
  cases r1; cases r2; exact ⟨_, op_mul, i, j, rfl, rfl, h, pack (.int _) m q⟩
theorem ro_mulW {i j : Int} {a b : Nat} (ha : i.natAbs < 2 ^ a) (hb : j.natAbs < 2 ^ b) (h : a + b ≤ 134217728) (q : Q (.int (i * j)) M) : RO X .Mult (.int i) (.int j) M Q := fun v w H m r1 r2 => by
  cases r1; cases r2; exact ⟨_, op_mulX, i, j, rfl, rfl, mulx_ok ha hb h, pack (.int _) m q⟩
theorem ro_divI {i j : Int} {b : Nat} (h : 0 < j) (hb : j.natAbs < 2 ^ b) (h0 : 0 < b) (h9 : b ≤ 9000) (q : Q (.int (i / j)) M) : RO X .FloorDiv (.int i) (.int j) M Q := fun v w H m r1 r2 => by
  cases r1; cases r2; exact ⟨_, op_fdivW, i, j, rfl, rfl, wide_div h hb h0 h9, pack (.int _) m q⟩
theorem ro_modI {i j : Int} (h : 0 < j) (q : Q (.int (i % j)) M) : RO X .Mod (.int i) (.int j) M Q := fun v w H m r1 r2 => by
  cases r1; cases r2; exact ⟨_, op_mod, i, j, rfl, rfl, h, pack (.int _) m q⟩
/-- a power whose bits keep within the line -/
theorem op_powX : OpR X (binaryOp .Pow) (rI (fun i j => 0 ≤ j ∧ (Builtin.Int.intBits i : Int) * j ≤ 2 ^ 27) fun i j => .int (i ^ j.toNat)) := opI fun _ _ _ _ _ _ _ hc q => PyProof.Rows.pow_int hc.1 hc.2 q
theorem bits_of {i : Int} {a : Nat} (h : i.natAbs < 2 ^ a) (h0 : 0 < a) : Builtin.Int.intBits i ≤ a := by
  have x := PySem.Flt.log2_lt_of h0 h
  unfold Builtin.Int.intBits
  split <;> omega
theorem ro_powI {i : Int} {k a : Nat} (h : i.natAbs < 2 ^ a) (h0 : 0 < a) (hk : a * k ≤ 134217728) (q : Q (.int (i ^ k)) M) : RO X .Pow (.int i) (.int (k : Int)) M Q := fun v w H m r1 r2 => by
  cases r1; cases r2
  refine ⟨_, op_powX, i, k, rfl, rfl, ⟨by omega, ?_⟩, pack (.int _) m (by simpa using q)⟩
  have h1 := bits_of h h0
  have h2 : Builtin.Int.intBits i * k ≤ a * k := Nat.mul_le_mul_right k h1
  have h3 : ((Builtin.Int.intBits i * k : Nat) : Int) ≤ ((134217728 : Nat) : Int) := by omega
  rw [Int.natCast_mul] at h3
  exact h3
theorem ru_neg {i : Int} (q : Q (.int (-i)) M) : RU X .USub (.int i) M Q := fun v H m r1 => by
  cases r1; exact ⟨_, un_neg, i, rfl, pack (.int _) m q⟩
theorem ro_addS {x y : Str} (hl : x.length + y.length ≤ sizeLine) (q : Q (.str (x ++ y)) M) : RO X .Add (.str x) (.str y) M Q := fun v w H m r1 r2 => by
  cases r1; cases r2; exact ⟨_, op_add_str, x, y, rfl, rfl, hl, pack (.str _) m q⟩
/-- a list that is made anew at p -/
theorem new_lst {H : Hp} {p : Addr} {xs : List S} {vs : List V} (m : MemR X.K M H) (rvs : RVs X.K H xs vs) (hp : H p = none) (q : ∀ p, M p = none → Q (.ptr p) (updM M p (.lst xs))) : PostE X H Q (.ref p) (upd H p (.lst vs)) :=
  ⟨.ptr p, _, keep_new hp, .ptr p, put_lst m hp rvs, q p (m.free hp)⟩
theorem new_tup {H : Hp} {p : Addr} {xs : List S} {vs : List V} (m : MemR X.K M H) (rvs : RVs X.K H xs vs) (hp : H p = none) (q : Q (.tup xs) M) : PostE X H Q (.ref p) (upd H p (.tup vs)) :=
  ⟨.tup xs, M, keep_new hp, .tup (.inl upd_same) (rvs.up (keep_new hp)), m.skip hp, q⟩
theorem ro_catL {p r : Addr} {xs ys : List S} (hp : M p = some (.lst xs)) (hr : M r = some (.lst ys)) (hl : xs.length + ys.length ≤ sizeLine) (q : ∀ t, M t = none → Q (.ptr t) (updM M t (.lst (xs ++ ys)))) : RO X .Add (.ptr p) (.ptr r) M Q := fun v w H m r1 r2 => by
  cases r1; cases r2
  obtain ⟨vs, h1, h2⟩ := m p _ hp
  obtain ⟨ws, h3, h4⟩ := m r _ hr
  exact ⟨_, op_cat, p, r, vs, ws, rfl, rfl, h1, h3, by rw [← h2.length, ← h4.length]; exact hl, fun t ht => new_lst m (h2.append h4) ht q⟩
theorem ro_repL {p : Addr} {xs : List S} {k : Int} (hp : M p = some (.lst xs)) (h1 : -(2 ^ 63) ≤ k) (h2 : k < 2 ^ 63) (hl : xs.length * k.toNat ≤ sizeLine) (q : ∀ t, M t = none → Q (.ptr t) (updM M t (.lst (List.replicate k.toNat xs).flatten))) : RO X .Mult (.ptr p) (.int k) M Q := fun v w H m r1 r2 => by
  cases r1; cases r2
  obtain ⟨vs, h3, h4⟩ := m p _ hp
  exact ⟨_, op_rep, p, k, vs, rfl, rfl, h3, h1, h2, by rw [← h4.length]; exact hl, fun t ht => new_lst m (h4.rep _) ht q⟩
theorem ro_catT {xs ys : List S} (hl : xs.length + ys.length ≤ sizeLine) (q : Q (.tup (xs ++ ys)) M) : RO X .Add (.tup xs) (.tup ys) M Q := fun v w H m r1 r2 => by
  cases r1 with
  | @tup a1 v1 _ s1 q1 =>
    cases r2 with
    | @tup a2 v2 _ s2 q2 =>
      refine ⟨_, op_catA, _, _, _, _, rfl, rfl, s1.sq, s2.sq, by rw [← q1.length, ← q2.length]; exact hl, fun e => ?_, fun _ e => ?_, fun _ _ t ht => new_tup m (q1.append q2) ht q⟩
      · subst e
        cases q1
        exact ⟨.tup ys, M, Keep.refl, .tup s2 q2, m, q⟩
      · subst e
        cases q2
        rw [List.append_nil] at q
        exact ⟨.tup xs, M, Keep.refl, .tup s1 q1, m, q⟩
theorem ro_repT {xs : List S} {k : Int} (hne : xs ≠ []) (h1 : 2 ≤ k) (h2 : k ≤ 1000) (hl : xs.length ≤ 1000) (q : Q (.tup (List.replicate k.toNat xs).flatten) M) : RO X .Mult (.tup xs) (.int k) M Q := fun v w H m r1 r2 => by
  cases r2
  cases r1 with
  | @tup a1 v1 _ s1 q1 =>
    refine ⟨_, op_repT, _, k, _, rfl, rfl, s1.sq, fun z => ?_, h1, h2, by rw [← q1.length]; exact hl, fun t ht => new_tup m (q1.rep _) ht q⟩
    subst z
    cases q1
    exact hne rfl
/-! comparisons -/
theorem rc_ltI {i j : Int} (q : Q (.bl (decide (i < j))) M) : RC X .Lt (.int i) (.int j) M Q := fun v w H m r1 r2 => by
  cases r1; cases r2; exact ⟨_, op_lt, i, j, rfl, rfl, pack (.bl _) m q⟩
theorem rc_leI {i j : Int} (q : Q (.bl (decide (i ≤ j))) M) : RC X .LtE (.int i) (.int j) M Q := fun v w H m r1 r2 => by
  cases r1; cases r2; exact ⟨_, op_le, i, j, rfl, rfl, pack (.bl _) m q⟩
theorem rc_gtI {i j : Int} (q : Q (.bl (decide (j < i))) M) : RC X .Gt (.int i) (.int j) M Q := fun v w H m r1 r2 => by
  cases r1; cases r2; exact ⟨_, op_gt, i, j, rfl, rfl, pack (.bl _) m q⟩
theorem rc_geI {i j : Int} (q : Q (.bl (decide (j ≤ i))) M) : RC X .GtE (.int i) (.int j) M Q := fun v w H m r1 r2 => by
  cases r1; cases r2; exact ⟨_, op_ge, i, j, rfl, rfl, pack (.bl _) m q⟩
theorem rc_eqI {i j : Int} (q : Q (.bl (decide (i = j))) M) : RC X .Eq (.int i) (.int j) M Q := fun v w H m r1 r2 => by
  cases r1; cases r2
  refine ⟨_, op_eq, rfl, ?_⟩
  have e : decide (V.int i = V.int j) = decide (i = j) := by rw [dec_int]; rfl
  rw [e]
  exact pack (.bl _) m q
theorem rc_neI {i j : Int} (q : Q (.bl (!decide (i = j))) M) : RC X .NotEq (.int i) (.int j) M Q := fun v w H m r1 r2 => by
  cases r1; cases r2
  refine ⟨_, op_ne, rfl, ?_⟩
  have e : decide (V.int i = V.int j) = decide (i = j) := by rw [dec_int]; rfl
  rw [e]
  exact pack (.bl _) m q
theorem rc_eqB {i j : Bool} (q : Q (.bl (decide (i = j))) M) : RC X .Eq (.bl i) (.bl j) M Q := fun v w H m r1 r2 => by
  cases r1; cases r2
  refine ⟨_, op_eq, rfl, ?_⟩
  have e : decide (V.bl i = V.bl j) = decide (i = j) := by rw [dec_bl]; cases i <;> cases j <;> rfl
  rw [e]
  exact pack (.bl _) m q
theorem rc_neB {i j : Bool} (q : Q (.bl (!decide (i = j))) M) : RC X .NotEq (.bl i) (.bl j) M Q := fun v w H m r1 r2 => by
  cases r1; cases r2
  refine ⟨_, op_ne, rfl, ?_⟩
  have e : decide (V.bl i = V.bl j) = decide (i = j) := by rw [dec_bl]; cases i <;> cases j <;> rfl
  rw [e]
  exact pack (.bl _) m q
def isNone : S → Bool
  | .non => true
  | _ => false
theorem rv_none {K : PySem.W.Frag} {H : Hp} {s : S} {v : V} (r : RV K H s v) : decide (v = .non) = isNone s := by
  cases r <;> rfl
theorem rc_isN {s : S} (q : Q (.bl (isNone s)) M) : RC X .Is s .non M Q := fun v w H m r1 r2 => by
  cases r2
  refine ⟨_, op_isN, rfl, ?_⟩
  rw [rv_none r1]
  exact pack (.bl _) m q
theorem rc_notN {s : S} (q : Q (.bl (!isNone s)) M) : RC X .IsNot s .non M Q := fun v w H m r1 r2 => by
  cases r2
  refine ⟨_, op_notN, rfl, ?_⟩
  rw [rv_none r1]
  exact pack (.bl _) m q
/-! subscripts -/
theorem rx_tup {xs : List S} {i : Int} {s : S} (h : atI xs i = some s) (q : Q s M) : RX X (.tup xs) (.int i) M Q := fun v w H m r1 r2 => by
  cases r2
  cases r1 with
  | tup s1 q1 =>
    obtain ⟨j, e1, e2, e3, e4, e5⟩ := atI_get h
    obtain ⟨u, e6, e7⟩ := q1.get e2
    refine ⟨_, ix_tup, _, _, i, u, rfl, rfl, s1.sq, ?_, pack e7 m q⟩
    unfold atI at h ⊢
    rw [← q1.length]
    cases z : ixN xs.length i with
    | none => rw [z] at h; cases h
    | some k =>
      have z2 := (ixN_seq z).1
      rw [e1] at z2
      cases z2
      exact e6
theorem rx_lst {p : Addr} {xs : List S} {i : Int} {s : S} (hp : M p = some (.lst xs)) (h : atI xs i = some s) (q : Q s M) : RX X (.ptr p) (.int i) M Q := fun v w H m r1 r2 => by
  cases r2
  cases r1
  obtain ⟨vs, h1, q1⟩ := m p _ hp
  obtain ⟨j, e1, e2, e3, e4, e5⟩ := atI_get h
  obtain ⟨u, e6, e7⟩ := q1.get e2
  refine ⟨_, ix_list, _, _, i, u, rfl, rfl, SqL.of h1, ?_, pack e7 m q⟩
  unfold atI at h ⊢
  rw [← q1.length]
  cases z : ixN xs.length i with
  | none => rw [z] at h; cases h
  | some k =>
    have z2 := (ixN_seq z).1
    rw [e1] at z2
    cases z2
    exact e6
theorem rx_rdl {xs : List S} {i : Int} {s : S} (h : atI xs i = some s) (q : Q s M) : RX X (.rdl xs) (.int i) M Q := fun v w H m r1 r2 => by
  cases r2
  cases r1 with
  | rdl s1 q1 =>
    obtain ⟨j, e1, e2, e3, e4, e5⟩ := atI_get h
    obtain ⟨u, e6, e7⟩ := q1.get e2
    refine ⟨_, ix_list, _, _, i, u, rfl, rfl, s1.sq, ?_, pack e7 m q⟩
    unfold atI at h ⊢
    rw [← q1.length]
    cases z : ixN xs.length i with
    | none => rw [z] at h; cases h
    | some k =>
      have z2 := (ixN_seq z).1
      rw [e1] at z2
      cases z2
      exact e6
end
end Sy

set_option Elab.async false
set_option linter.all false
set_option maxRecDepth 100000
/-! S5: built-ins by symbolic values, methods of lists, own defs. -/
namespace Sy
open PySem PySem.Spec PyProof.Rows L2
section
variable {X : Cx} {G : Hp} {env : Ev} {M : Mem} {D : SD} {Q : QS} {a b c e o : Expr} {es : List Expr} {pos : Pos}
theorem rvs1 {K : PySem.W.Frag} {H : Hp} {x : S} {vs : List V} (h : RVs K H [x] vs) : ∃ v, vs = [v] ∧ RV K H x v := by
  cases h with
  | cons a b => cases b; exact ⟨_, rfl, a⟩
theorem rvs2 {K : PySem.W.Frag} {H : Hp} {x y : S} {vs : List V} (h : RVs K H [x, y] vs) : ∃ v w, vs = [v, w] ∧ RV K H x v ∧ RV K H y w := by
  cases h with
  | cons a b =>
    obtain ⟨w, rfl, c⟩ := rvs1 b
    exact ⟨_, w, rfl, a, c⟩
/-! ### what a list, a tuple or a frozen list holds -/
def ItS (M : Mem) (s : S) (xs : List S) : Prop := s = .tup xs ∨ s = .rdl xs ∨ ∃ p, s = .ptr p ∧ M p = some (.lst xs)
theorem its_tup {xs : List S} : ItS M (.tup xs) xs := .inl rfl
theorem its_rdl {xs : List S} : ItS M (.rdl xs) xs := .inr (.inl rfl)
theorem its_lst {p : Addr} {xs : List S} (h : M p = some (.lst xs)) : ItS M (.ptr p) xs := .inr (.inr ⟨p, rfl, h⟩)
theorem its_get {H : Hp} {s : S} {xs : List S} {v : V} (i : ItS M s xs) (m : MemR X.K M H) (r : RV X.K H s v) : ∃ a vs, v = .ref a ∧ (SqL X.K H a vs ∨ SqT X.K H a vs) ∧ RVs X.K H xs vs := by
  rcases i with rfl | rfl | ⟨p, rfl, h⟩
  · cases r with
    | tup a b => exact ⟨_, _, rfl, .inr a.sq, b⟩
  · cases r with
    | rdl a b => exact ⟨_, _, rfl, .inl a.sq, b⟩
  · cases r
    obtain ⟨vs, h1, h2⟩ := m p _ h
    exact ⟨p, vs, rfl, .inl (SqL.of h1), h2⟩
theorem rb_len {s : S} {xs : List S} (i : ItS M s xs) (q : Q (.int xs.length) M) : RB X (.builtin "len") [s] M Q := fun vs H m r => by
  obtain ⟨v, rfl, r1⟩ := rvs1 r
  obtain ⟨a, us, rfl, h, ru⟩ := its_get i m r1
  refine ⟨_, call_len_seq, a, us, rfl, h, ?_⟩
  rw [← ru.length]
  exact pack (.int _) m q
theorem rb_lenS {x : Str} (hl : x.length ≤ sizeLine) (q : Q (.int x.length) M) : RB X (.builtin "len") [.str x] M Q := fun vs H m r => by
  obtain ⟨v, rfl, r1⟩ := rvs1 r
  cases r1
  exact ⟨_, call_len_str, x, rfl, hl, pack (.int _) m q⟩
theorem rb_abs {i : Int} (q : Q (.int (if i < 0 then -i else i)) M) : RB X (.builtin "abs") [.int i] M Q := fun vs H m r => by
  obtain ⟨v, rfl, r1⟩ := rvs1 r
  cases r1
  exact ⟨_, call_abs, i, rfl, pack (.int _) m q⟩
theorem rb_max {i j : Int} (q : Q (.int (if j > i then j else i)) M) (hc : X.calm = true := by rfl) : RB X (.builtin "max") [.int i, .int j] M Q := fun vs H m r => by
  obtain ⟨v, w, rfl, r1, r2⟩ := rvs2 r
  cases r1; cases r2
  exact ⟨_, call_max2 hc, i, j, rfl, pack (.int _) m q⟩
theorem rb_min {i j : Int} (q : Q (.int (if j < i then j else i)) M) (hc : X.calm = true := by rfl) : RB X (.builtin "min") [.int i, .int j] M Q := fun vs H m r => by
  obtain ⟨v, w, rfl, r1, r2⟩ := rvs2 r
  cases r1; cases r2
  exact ⟨_, call_min2 hc, i, j, rfl, pack (.int _) m q⟩
theorem rb_intI {i : Int} (q : Q (.int i) M) : RB X (.type "int") [.int i] M Q := fun vs H m r => by
  obtain ⟨v, rfl, r1⟩ := rvs1 r
  cases r1
  exact ⟨_, call_int1, .inl ⟨i, rfl, pack (.int _) m q⟩⟩
theorem rb_intB {k : Bool} (q : Q (.int (if k then 1 else 0)) M) : RB X (.type "int") [.bl k] M Q := fun vs H m r => by
  obtain ⟨v, rfl, r1⟩ := rvs1 r
  cases r1
  exact ⟨_, call_int1, .inr ⟨k, rfl, pack (.int _) m q⟩⟩
theorem rb_strI {i : Int} (h : i.natAbs.log2 < 1920) (q : Q (.str (toString i)) M) : RB X (.type "str") [.int i] M Q := fun vs H m r => by
  obtain ⟨v, rfl, r1⟩ := rvs1 r
  cases r1
  exact ⟨_, call_str_int, i, rfl, h, pack (.str _) m q⟩
theorem rb_list {s : S} {xs : List S} (i : ItS M s xs) (q : ∀ p, M p = none → Q (.ptr p) (updM M p (.lst xs))) : RB X (.type "list") [s] M Q := fun vs H m r => by
  obtain ⟨v, rfl, r1⟩ := rvs1 r
  obtain ⟨a, us, rfl, h, ru⟩ := its_get i m r1
  exact ⟨_, call_list_of, a, us, rfl, h, fun l hl => new_lst m ru hl q⟩
theorem rb_tupleL {p : Addr} {xs : List S} (i : M p = some (.lst xs)) (q : Q (.tup xs) M) : RB X (.type "tuple") [.ptr p] M Q := fun vs H m r => by
  obtain ⟨v, rfl, r1⟩ := rvs1 r
  cases r1
  obtain ⟨us, h1, h2⟩ := m p _ i
  exact ⟨_, call_tuple_of, p, us, rfl, .inl ⟨SqL.of h1, fun l hl => new_tup m h2 hl q⟩⟩
theorem rb_tupleT {xs : List S} (q : Q (.tup xs) M) : RB X (.type "tuple") [.tup xs] M Q := fun vs H m r => by
  obtain ⟨v, rfl, r1⟩ := rvs1 r
  cases r1 with
  | tup h1 h2 => exact ⟨_, call_tuple_of, _, _, rfl, .inr ⟨h1.sq, pack (.tup h1 h2) m q⟩⟩
theorem rvs_bls {K : PySem.W.Frag} {H : Hp} : ∀ {bs : List Bool} {vs : List V}, RVs K H (bs.map S.bl) vs → vs = bs.map V.bl
  | [], _, h => by cases h; rfl
  | b :: bs, _, h => by
    cases h with
    | cons r t => cases r; rw [rvs_bls t]; rfl
theorem rvs_ints {K : PySem.W.Frag} {H : Hp} : ∀ {bs : List Int} {vs : List V}, RVs K H (bs.map S.int) vs → vs = bs.map V.int
  | [], _, h => by cases h; rfl
  | b :: bs, _, h => by
    cases h with
    | cons r t => cases r; rw [rvs_ints t]; rfl
theorem rb_all {p : Addr} {bs : List Bool} (i : M p = some (.lst (bs.map S.bl))) (q : Q (.bl (bs.all id)) M) (hc : X.calm = true := by rfl) : RB X (.builtin "all") [.ptr p] M Q := fun vs H m r => by
  obtain ⟨v, rfl, r1⟩ := rvs1 r
  cases r1
  obtain ⟨us, h1, h2⟩ := m p _ i
  have e := rvs_bls h2
  subst e
  exact ⟨_, cr_all hc, p, bs, rfl, SqL.of h1, pack (.bl _) m q⟩
theorem rb_any {p : Addr} {bs : List Bool} (i : M p = some (.lst (bs.map S.bl))) (q : Q (.bl (bs.any id)) M) (hc : X.calm = true := by rfl) : RB X (.builtin "any") [.ptr p] M Q := fun vs H m r => by
  obtain ⟨v, rfl, r1⟩ := rvs1 r
  cases r1
  obtain ⟨us, h1, h2⟩ := m p _ i
  have e := rvs_bls h2
  subst e
  exact ⟨_, cr_any hc, p, bs, rfl, SqL.of h1, pack (.bl _) m q⟩
theorem rb_sum {p : Addr} {ns : List Int} (i : M p = some (.lst (ns.map S.int))) (q : Q (.int ns.sum) M) (hc : X.calm = true := by rfl) : RB X (.builtin "sum") [.ptr p] M Q := fun vs H m r => by
  obtain ⟨v, rfl, r1⟩ := rvs1 r
  cases r1
  obtain ⟨us, h1, h2⟩ := m p _ i
  have e := rvs_ints h2
  subst e
  exact ⟨_, cr_sum hc, p, ns, rfl, SqL.of h1, pack (.int _) m q⟩
/-! ### isinstance -/
def tyS (M : Mem) : S → Option String
  | .non => some "NoneType"
  | .bl _ => some "bool"
  | .int _ => some "int"
  | .str _ => some "str"
  | .tup _ => some "tuple"
  | .rdl _ => some "list"
  | .ptr p => match M p with
    | some (.lst _) => some "list"
    | some (.dK _) => some "dict"
    | none => none
  | .ty _ => none
  | .exn _ _ => none
theorem tyS_ok {H : Hp} {s : S} {t : String} {v : V} (h : tyS M s = some t) (m : MemR X.K M H) (r : RV X.K H s v) : TyX X.K H v (.type t) := by
  cases r with
  | non => cases h; exact .base .non
  | bl b => cases h; exact .base (.bl b)
  | int i => cases h; exact .base (.int i)
  | str x => cases h; exact .base (.str x)
  | ty n => cases h
  | exn _ _ _ => cases h
  | ptr a =>
    unfold tyS at h
    dsimp only at h
    cases e : M a with
    | none => rw [e] at h; cases h
    | some o =>
      rw [e] at h
      cases o with
      | lst xs =>
        cases h
        obtain ⟨vs, h1, _⟩ := m a _ e
        exact .base (.lst h1)
      | dK kvs =>
        cases h
        obtain ⟨vs, h1, _⟩ := m a _ e
        exact .base (.dK h1)
  | tup h1 h2 =>
    cases h
    rcases h1 with h1 | (h1 | ⟨o, h1⟩) | ⟨o, its, n, hk, hc, _⟩
    · exact .base (.tup h1)
    · cases h1
    · cases h1
    · exact .kTuple hk hc
  | rdl h1 h2 =>
    cases h
    rcases h1 with ⟨o, h1⟩ | (h1 | ⟨o, h1⟩) | ⟨o, its, n, hk, hc, _⟩
    · exact .base (.frz h1)
    · cases h1
    · cases h1
    · exact .kList hk hc
theorem rb_isi {s : S} {n t : String} {k : Bool} (ht : tyS M s = some t) (hk : kitB t n = some k) (q : Q (.bl k) M) : RB X (.builtin "isinstance") [s, .ty n] M Q := fun vs H m r => by
  obtain ⟨v, w, rfl, r1, r2⟩ := rvs2 r
  cases r2
  exact ⟨_, call_isi, v, .ty n, .type t, .type n, k, rfl, .ty n, tyS_ok ht m r1, kit_ty hk, pack (.bl _) m q⟩
theorem rb_isiT {s : S} {ns : List String} {t : String} {k : Bool} (ht : tyS M s = some t) (hk : ∀ K : PySem.W.Frag, PySem.W.kitAny K (.type t) (ns.map Value.type) = some k) (q : Q (.bl k) M) : RB X (.builtin "isinstance") [s, .tup (ns.map S.ty)] M Q := fun vs H m r => by
  obtain ⟨v, w, rfl, r1, r2⟩ := rvs2 r
  have e : ∀ (ns : List String) (ws : List V), RVs X.K H (ns.map S.ty) ws → ws = ns.map V.ty := by
    intro ns
    induction ns with
    | nil => intro ws h; cases h; rfl
    | cons n ns ih =>
      intro ws h
      cases h with
      | cons a b => cases a; rw [ih _ b]; rfl
  cases r2 with
  | @tup a ws _ h1 h2 =>
    have e2 := e _ _ h2
    subst e2
    have pr : ∀ ns : List String, Paired ClsV (ns.map V.ty) (ns.map Value.type) := by
      intro ns
      induction ns with
      | nil => exact .nil
      | cons n ns ih => exact .cons (.ty n) ih
    rcases h1 with h1 | (h1 | ⟨o, h1⟩) | ⟨o, its, n, hk2, hc, hd, hz, hv⟩
    · exact ⟨_, call_isiT, v, a, ns.map V.ty, .type t, ns.map Value.type, k, rfl, h1, pr ns, tyS_ok ht m r1, hk _, pack (.bl _) m q⟩
    · cases h1
    · cases h1
    · have e3 : its.toList = ns.map Value.type := ClsV.all (pr ns) hv
      obtain ⟨oc, od, oda, osl⟩ := o
      simp only at hc hd
      subst hc hd
      refine ⟨_, call_isiK, v, a, od, ns.map Value.type, n, osl, .type t, k, rfl, ?_, tyS_ok ht m r1, hk _, pack (.bl _) m q⟩
      rw [← e3]
      exact hk2
/-! ### methods of lists -/
theorem put_at {H : Hp} {p : Addr} {vs : List V} {ss' : List S} {vs' : List V} (m : MemR X.K M H) (hp : H p = some (.lst vs)) (r : RVs X.K H ss' vs') : MemR X.K (updM M p (.lst ss')) (upd H p (.lst vs')) := m.put (u := .lst ss') (keep_lst hp) ⟨vs', upd_same, r.up (keep_lst hp)⟩
theorem se_append {apos : Pos} (h : SE X G o env M fun s M1 => ∃ p, s = .ptr p ∧ (∃ xs, M1 p = some (.lst xs)) ∧ SE X G e env M1 fun y M2 => ∃ xs, M2 p = some (.lst xs) ∧ xs.length < sizeLine ∧ Q .non (updM M2 p (.lst (xs ++ [y]))))
    (hbase : attributeBase o "append" X.env (eval o X.env) = eval o X.env := by rfl) (hfew : ((backTo pos (starEach [e] X.env)).all (fun x => !x.1) && (backToKw pos (keywordEach [] X.env)).all (fun x => x.1.isSome) && decide (([e] : List Expr).length + ([] : List Keyword).length + (if ([] : List Keyword).isEmpty then 0 else 1) < 30)) = true := by rfl)
    (hline : (apos.endLine == pos.line) = true := by rfl) (hs : starEach [e] X.env = (false, eval e X.env) :: starEach [] X.env := by rfl) (hpl : (backTo pos (starEach [] X.env)).any (·.1) = false := by rfl) : SE X G (.Call (.Attribute o "append" apos) [e] [] pos) env M Q := fun σ H R =>
  ⟨_, pe_bm PySem.F.plainAttrs_list PySem.F.slot_list_append PySem.F.type_list_append mt_append pe_S (pa_cons (te := tS X G e) pe_S pa_nil hs) hbase hfew hline hs hpl,
    tS_go R h fun s M1 v H1 k1 rv R1 ⟨p, e1, ⟨xs0, hp0⟩, q1⟩ => by
      subst e1
      cases rv
      obtain ⟨vs0, h10, _⟩ := R1.mem p _ hp0
      refine ⟨.inl ⟨rfl, _, SqL.of h10⟩, tS_go R1 q1 fun y M2 w H2 k2 rw R2 ⟨xs, hp, hl, q2⟩ => ?_⟩
      obtain ⟨vs, h1, h2⟩ := R2.mem p _ hp
      exact ⟨p, vs, w, rfl, rfl, h1, by rw [← h2.length]; exact hl, .non, _, (k1.trans k2).trans (keep_lst h1), .non, put_at R2.mem h1 (h2.append (.cons rw .nil)), q2⟩⟩
theorem se_pop0 {apos : Pos} (h : SE X G o env M fun s M1 => ∃ p xs y, s = .ptr p ∧ M1 p = some (.lst xs) ∧ xs[xs.length - 1]? = some y ∧ Q y (updM M1 p (.lst xs.dropLast)))
    (hbase : attributeBase o "pop" X.env (eval o X.env) = eval o X.env := by rfl) (hline : (apos.endLine == pos.line) = true := by rfl) : SE X G (.Call (.Attribute o "pop" apos) [] [] pos) env M Q := fun σ H R =>
  ⟨_, pe_bm0 PySem.F.plainAttrs_list PySem.F.slot_list_pop PySem.F.type_list_pop mt_pop pe_S hbase hline, tS_go R h fun s M1 v H1 k1 rv R1 ⟨p, xs, y, e1, hp, hy, q1⟩ => by
      subst e1
      cases rv
      obtain ⟨vs, h1, h2⟩ := R1.mem p _ hp
      obtain ⟨u, e2, e3⟩ := h2.get hy
      exact ⟨.inl ⟨rfl, _, SqL.of h1⟩, p, vs, u, rfl, rfl, h1, by rw [← h2.length]; exact e2, y, _, k1.trans (keep_lst h1), e3.up (keep_lst h1), put_at R1.mem h1 h2.dropLast, q1⟩⟩
theorem se_reverse {apos : Pos} (h : SE X G o env M fun s M1 => ∃ p xs, s = .ptr p ∧ M1 p = some (.lst xs) ∧ Q .non (updM M1 p (.lst xs.reverse)))
    (hbase : attributeBase o "reverse" X.env (eval o X.env) = eval o X.env := by rfl) (hline : (apos.endLine == pos.line) = true := by rfl) : SE X G (.Call (.Attribute o "reverse" apos) [] [] pos) env M Q := fun σ H R =>
  ⟨_, pe_bm0 PySem.F.plainAttrs_list PySem.F.slot_list_reverse PySem.F.type_list_reverse mt_reverse pe_S hbase hline, tS_go R h fun s M1 v H1 k1 rv R1 ⟨p, xs, e1, hp, q1⟩ => by
      subst e1
      cases rv
      obtain ⟨vs, h1, h2⟩ := R1.mem p _ hp
      exact ⟨.inl ⟨rfl, _, SqL.of h1⟩, p, vs, rfl, rfl, h1, .non, _, k1.trans (keep_lst h1), .non, put_at R1.mem h1 h2.reverse, q1⟩⟩
theorem se_popI {apos : Pos} (h : SE X G o env M fun s M1 => ∃ p, s = .ptr p ∧ (∃ xs, M1 p = some (.lst xs)) ∧ SE X G e env M1 fun i M2 => ∃ xs n k y, i = .int n ∧ M2 p = some (.lst xs) ∧ seqIndex? n xs.length = some k ∧ xs[k]? = some y ∧ -(2 ^ 63) ≤ n ∧ n < 2 ^ 63 ∧ Q y (updM M2 p (.lst (xs.eraseIdx k))))
    (hbase : attributeBase o "pop" X.env (eval o X.env) = eval o X.env := by rfl) (hfew : ((backTo pos (starEach [e] X.env)).all (fun x => !x.1) && (backToKw pos (keywordEach [] X.env)).all (fun x => x.1.isSome) && decide (([e] : List Expr).length + ([] : List Keyword).length + (if ([] : List Keyword).isEmpty then 0 else 1) < 30)) = true := by rfl)
    (hline : (apos.endLine == pos.line) = true := by rfl) (hs : starEach [e] X.env = (false, eval e X.env) :: starEach [] X.env := by rfl) (hpl : (backTo pos (starEach [] X.env)).any (·.1) = false := by rfl) : SE X G (.Call (.Attribute o "pop" apos) [e] [] pos) env M Q := fun σ H R =>
  ⟨_, pe_bm PySem.F.plainAttrs_list PySem.F.slot_list_pop PySem.F.type_list_pop mt_popAt pe_S (pa_cons (te := tS X G e) pe_S pa_nil hs) hbase hfew hline hs hpl,
    tS_go R h fun s M1 v H1 k1 rv R1 ⟨p, e1, ⟨xs0, hp0⟩, q1⟩ => by
      subst e1
      cases rv
      obtain ⟨vs0, h10, _⟩ := R1.mem p _ hp0
      refine ⟨.inl ⟨rfl, _, SqL.of h10⟩, tS_go R1 q1 fun y M2 w H2 k2 rw' R2 ⟨xs, n, k, y, en, hp, e2, e3, b1, b2, q2⟩ => ?_⟩
      subst en
      cases rw'
      obtain ⟨vs, h1, h2⟩ := R2.mem p _ hp
      obtain ⟨u, e4, e5⟩ := h2.get e3
      exact ⟨p, vs, n, k, u, rfl, rfl, h1, b1, b2, by rw [← h2.length]; exact e2, e4, y, _, (k1.trans k2).trans (keep_lst h1), e5.up (keep_lst h1), put_at R2.mem h1 (h2.eraseIdx k), q2⟩⟩
/-- xs[i] = v -/
theorem sg_item {a b : Expr} {s : S} {n : Ev → Mem → Prop} (h : SE X G a env M fun x M1 => SE X G b env M1 fun y M2 => ∃ p xs k j, x = .ptr p ∧ y = .int k ∧ M2 p = some (.lst xs) ∧ ixN xs.length k = some j ∧ n env (updM M2 p (.lst (xs.set j s))))
    (ha : ∀ v, assign (.Subscript a b pos) X.env v = (do let ov ← holding [v] (eval a X.env); let iv ← holding [v, ov] (eval b X.env); standAt pos; holding [v, ov, iv] (setItem ov iv v); release [v, ov, iv] []) := by intro _; rfl) : SG X G (.Subscript a b pos) s env M n := fun G1 kG v σ H R hv =>
  ⟨_, pg_sub (to := tS X G a) (ti := tS X G b) pe_S pe_S set_list ha, tS_at kG R h fun x M1 u H1 k1 r1 R1 q1 => tS_at kG R1 q1 fun y M2 w H2 k2 r2 R2 ⟨p, xs, k, j, e1, e2, hp, hj, q2⟩ => by
    subst e1 e2
    cases r1
    cases r2
    obtain ⟨vs, h1, h2⟩ := R2.mem p _ hp
    have kk := keep_lst (K := X.K) (o := .lst (vs.set j v)) h1
    exact ⟨p, vs, k, j, rfl, rfl, h1, by rw [← h2.length]; exact hj, (k1.trans k2).trans kk, env, _, R2.step kk (put_at R2.mem h1 (h2.set (hv.up (k1.trans k2)) j)), q2⟩⟩
/-! ### slices -/
inductive SO (X : Cx) (G : Hp) : Option Expr → Ev → Mem → (Option Int → Mem → Prop) → Prop where
  | none {env : Ev} {M : Mem} {Q : Option Int → Mem → Prop} (q : Q none M) : SO X G none env M Q
  | some {e : Expr} {env : Ev} {M : Mem} {Q : Option Int → Mem → Prop} (h : SE X G e env M fun s M1 => ∃ i, s = .int i ∧ Q (some i) M1) : SO X G (some e) env M Q
def tSO (X : Cx) (G : Hp) : Option Expr → TO
  | none => tNoPart
  | some e => tPart (tS X G e)
theorem po_S : ∀ {o : Option Expr}, PO X o (tSO X G o)
  | none => po_none
  | some e => po_some pe_S
theorem so_go {o : Option Expr} {Q : Option Int → Mem → Prop} {σ : L2.St} {H : Hp} {R : Option Int → Hp → Prop} (r : Rel X.K G env M σ H) (h : SO X G o env M Q) (k : ∀ i M' H', Keep X.K H H' → Rel X.K G env M' σ H' → Q i M' → R i H') : tSO X G o σ H R := by
  cases h with
  | none q => exact k none M H Keep.refl r q
  | some h =>
    refine tS_go r h fun s M1 v H1 k1 rv R1 z => ?_
    obtain ⟨i, e, q⟩ := z
    subst e
    cases rv
    exact ⟨i, rfl, k (some i) M1 H1 k1 R1 q⟩
def cutS (xs : List S) (lo hi : Option Int) : List S := (xs.drop (HT.sIx xs.length 0 lo)).take (HT.sIx xs.length xs.length hi - HT.sIx xs.length 0 lo)
theorem cut_rv {K : PySem.W.Frag} {H : Hp} {xs : List S} {vs : List V} (r : RVs K H xs vs) (lo hi : Option Int) : RVs K H (cutS xs lo hi) (cutV vs lo hi) := by
  unfold cutS cutV
  rw [r.length]
  exact (r.drop _).take _
theorem se_cutL {lo hi : Option Expr} {p2 : Pos} (h : SE X G e env M fun s M1 => SO X G lo env M1 fun i M2 => SO X G hi env M2 fun j M3 => ∃ p xs, s = .ptr p ∧ M3 p = some (.lst xs) ∧ ∀ t, M3 t = none → Q (.ptr t) (updM M3 t (.lst (cutS xs i j)))) : SE X G (.Subscript e (.Slice lo hi none p2) pos) env M Q := fun σ H R =>
  ⟨_, pe_slice sl_list (te := tS X G e) pe_S (po_S (G := G)) (po_S (G := G)), tS_go R h fun s M1 v H1 k1 rv R1 q1 => so_go R1 q1 fun i M2 H2 k2 R2 q2 => so_go R2 q2 fun j M3 H3 k3 R3 ⟨p, xs, e1, hp, q3⟩ => by
    subst e1
    cases rv
    obtain ⟨vs, h1, h2⟩ := R3.mem p _ hp
    exact ⟨p, vs, rfl, SqL.of h1, fun t ht => (new_lst R3.mem (cut_rv h2 i j) ht q3).back (k1.trans (k2.trans k3))⟩⟩
theorem se_cutT {lo hi : Option Expr} {p2 : Pos} (h : SE X G e env M fun s M1 => SO X G lo env M1 fun i M2 => SO X G hi env M2 fun j M3 => ∃ xs, s = .tup xs ∧ Q (.tup (cutS xs i j)) M3) : SE X G (.Subscript e (.Slice lo hi none p2) pos) env M Q := fun σ H R =>
  ⟨_, pe_slice sl_tupA (te := tS X G e) pe_S (po_S (G := G)) (po_S (G := G)), tS_go R h fun s M1 v H1 k1 rv R1 q1 => so_go R1 q1 fun i M2 H2 k2 R2 q2 => so_go R2 q2 fun j M3 H3 k3 R3 ⟨xs, e1, q3⟩ => by
    subst e1
    cases rv.up (k2.trans k3) with
    | @tup a vs _ h1 h2 =>
      refine ⟨a, vs, rfl, h1.sq, fun ⟨z1, z2⟩ => ?_, fun _ t ht => (new_tup R3.mem (cut_rv h2 i j) ht q3).back (k1.trans (k2.trans k3))⟩
      have e : cutS xs i j = xs := by
        unfold cutS
        rw [h2.length, z1, z2, List.drop_zero, Nat.sub_zero, ← h2.length, List.take_length]
      rw [e] at q3
      exact ⟨.tup xs, M3, k1.trans (k2.trans k3), .tup h1 h2, R3.mem, q3⟩⟩
end
end Sy

set_option Elab.async false
set_option linter.all false
set_option maxRecDepth 100000
/-! S6: own defs and their promises; a context told by its names. -/
namespace Sy
open PySem PySem.Spec PyProof.Rows L2
abbrev Con := List S → Mem → QS → (Addr → S → Mem → Prop) → Prop
abbrev E0c : Addr → S → Mem → Prop := fun _ _ _ => False
/-- a promise by symbolic values -/
def SpC (K : PySem.W.Frag) (C : Con) : Sp := fun vs H Q E => ∃ ss M Q' E', RVs K H ss vs ∧ MemR K M H ∧ C ss M Q' E' ∧ (∀ s M' v H', Keep K H H' → RV K H' s v → MemR K M' H' → Q' s M' → Q v H') ∧
  ∀ c s M' d v H', Keep K H H' → H' d = some (.xd [(("value" : Str), v)]) → RV K H' s v → MemR K M' H' → E' c s M' → E (.ref c) (some d) H'
/-- a promise of a def where no repr is under way around it -/
structure FnOk (P : Program) (w : World) (K : PySem.W.Frag) (mg : Str → Option Value) (base : Heap) (cx : CXT) (k : Nat) (f : Addr) (fd : FuncData) (ps : List Str) (sp : Sp) : Prop where
  len : ∀ vs H Q E, sp vs H Q E → vs.length = ps.length
  run : ∀ (A : Around) (out : List Env) (s : Shared) (H : Hp) (args : Args) (us : List Value) (vs : List V) (Q : VK) (E : XK), Room k A → A.guards = some [] →
    Env0 P w K mg base A out s H → BindsTo s fd args (ps.zip us) → Vals vs us → sp vs H Q E → codeAny (model P w) A (.call (.ref f) args) (CR cx out P w H s Q E) s
theorem FnOk.mono {P : Program} {w : World} {K : PySem.W.Frag} {mg : Str → Option Value} {base : Heap} {cx : CXT} {j k : Nat} {f : Addr} {fd : FuncData} {ps : List Str} {sp : Sp} (F : FnOk P w K mg base cx j f fd ps sp) (h : j ≤ k) : FnOk P w K mg base cx k f fd ps sp where
  len := F.len
  run := fun A out s H args us vs Q E hr hg e0 hb hv hs => F.run A out s H args us vs Q E (hr.mono h) hg e0 hb hv hs
/-- the promise of a def by its body -/
theorem fn_by {P : Program} {w : World} {K : PySem.W.Frag} {mg : Str → Option Value} {base : Heap} {x qual : Str} {st : Stmt} {f : Addr} {fd : FuncData} {N ps : List Str} {k : Nat} {sp : Sp} (F : Fun K x qual st f fd) (S1 : FnScope N ps (defScope st)) (len : ∀ vs H Q E, sp vs H Q E → vs.length = ps.length)
    (body : ∀ (cdv : Value) (A : Around) (out : List Env) (s : Shared) (H : Hp) (vs : List V) (Q : VK) (E : XK), Room k (A.deeper (envOfC qual (defScope st) s.heap.objs.size f cdv)) → A.guards = some [] → sp vs H Q E →
      ∃ t, PSs (cxOf (L2.CX P w) P w K mg base N qual (defScope st) f cdv A out s H E) (defBody st) t ∧ t { nx := fun _ H' => Q .non H', rt := Q } (L2.start N vs) H) : FnOk P w K mg base (L2.CX P w) (k + 1) f fd ps sp where
  len := len
  run := fun A out s H args us vs Q E room gd e0 bnd rel hsp => by
    obtain ⟨oc, od, kV, doc, pm, an, cdv, ct, osl, rfl, lk, hcd⟩ := F.ex
    have nv := len _ _ _ _ hsp
    have grown : ∀ b o, base.get? b = some o → s.heap.get? b = some o := fun b o e => (e0.bs b o e).1
    have inK : K.In s.heap := e0.mod.kin.keeps grown
    have nolim : s.heap.NoLimit := e0.mod.nolimit.keeps grown
    refine codeAny_call_function room.depth (inK _ _ lk) rfl S1.co S1.gen rfl (PySem.W.codeRec_of inK hcd) (bnd _ _ _ _ ?_)
    refine wpAny_newFunctionEnv_cells S1.kind (fun z hz => ?_) fun env he s1 xs => ?_
    · obtain ⟨nm, u⟩ := z
      cases S1.par nm (List.of_mem_zip hz).1 with
      | inl q => exact .inl q
      | inr q => exact .inr ⟨q, PySem.W.cellsFrom_some _ _ _ (.inl q)⟩
    · subst he
      obtain ⟨t, pt, ht⟩ := body cdv A out s H vs Q E (room.deeper _) gd hsp
      have J : Inv (cxOf (L2.CX P w) P w K mg base N qual (defScope st) f cdv A out s H E) [] (L2.start N vs) H s1 := inv_start S1 room.hd e0 nv rel xs
      refine ⟨nolim.keeps xs.toInCall.keep, codeAny_func (wpAny_mono (pt.run [] s1 (L2.start N vs) H _ J ht) (fun fl s2 z => ?_) fun _ _ z => z)⟩
      have out1 : ∀ {σ2 : L2.St} {H2 : Hp} {v : V} {u : Value}, Inv (cxOf (L2.CX P w) P w K mg base N qual (defScope st) f cdv A out s H E) [] σ2 H2 s2 → RelV v u → Q v H2 → CE out P w H s Q u s2 := fun I rv q => ⟨_, _, I.os, I.bare, I.base, I.hok, rv, q⟩
      cases fl with
      | ret u => obtain ⟨v, σ2, H2, I, rv, q⟩ := z; exact out1 I rv q
      | next => obtain ⟨σ2, H2, I, q⟩ := z; exact out1 (v := .non) (u := .none) I rfl q
      | brk => obtain ⟨_, _, _, q⟩ := z; exact q.elim
      | cont => obtain ⟨_, _, _, q⟩ := z; exact q.elim
/-- f(..) by its promise -/
theorem run_pr {X : Cx} {k : Nat} {f : Addr} {fd : FuncData} {ps : List Str} {sp : Sp} {E : XK} {pins : List (Addr × Obj)} {σ : L2.St} {H : Hp} {s : Shared} {Q : VK} {us : List Value} {vs : List V} (F : FnOk X.prog X.w X.K X.mg X.base (L2.CX X.prog X.w) k f fd ps sp) (hr : Room k X.A) (hg : X.A.guards = some []) (hb : Binds X.K fd ps [])
    (hx : PassesAt (L2.CX X.prog X.w) X σ E) (I : Inv X pins σ H s) (r : Vals vs us) (h : sp vs H Q E) : wpAny (model X.prog X.w) X.A (call (.ref f) us) (EP X pins σ Q) X.xe s := by
  have nl : us.length = ps.length := r.length.symm.trans (F.len _ _ _ _ h)
  have bd := hb s us I.kIn (by simpa using nl)
  simp only [List.append_nil] at bd
  refine wpAny_call (codeAny_mono (F.run X.A X.stack s H ⟨us, []⟩ us vs Q E hr hg I.env0 bd r h) fun res s2 z => ?_)
  match res, z with
  | .error e, z => exact hx pins H s e s2 I z
  | .ok (.ret u), z => exact I.after z
  | .ok .next, z => exact z.elim
  | .ok .brk, z => exact z.elim
  | .ok .cont, z => exact z.elim
theorem pe_pr {X : Cx} {x : Str} {k : Nat} {f : Addr} {fd : FuncData} {ps : List Str} {sp : Sp} {E : L2.St → XK} {e : Expr} {es : List Expr} {t : TA} {p pos : Pos} (F : FnOk X.prog X.w X.K X.mg X.base (L2.CX X.prog X.w) k f fd ps sp) (hr : Room k X.A) (gd : X.A.guards = some []) (hg : Gl X x) (hm : X.mg x = some (.ref f)) (hk : PySem.W.keepIn X.K (.ref f) = true) (hb : Binds X.K fd ps []) (hx : ∀ σ, PassesAt (L2.CX X.prog X.w) X σ (E σ))
    (ha : PA X (e :: es) t) (hdb : (x == ("__debug__" : Str)) = false) (he : starEach (e :: es) X.env = (false, eval e X.env) :: starEach es X.env) (hpl : (backTo pos (starEach es X.env)).any (·.1) = false) : PE X (.Call (.Name x p) (e :: es) [] pos) (fun σ H Q => t σ H fun vs H1 => sp vs H1 Q (E σ)) where
  run := fun pins s σ H Q I h => wpAny_Call_Name_kw (ld_glob I hg hm (PySem.W.callWith_K (h₀ := X.base) I.ok.mod.kin hk (thn (ha.run pos pins s σ H _ I h) fun us s1 z => by
    obtain ⟨vs, H1, I1, r, q⟩ := z
    exact ⟨I1.kIn, run_pr F hr gd hb (hx σ) I1 r q⟩) he hpl) hdb)
/-- an own def, at hand in a context -/
structure Fn (P : Program) (w : World) (K : PySem.W.Frag) (mg : Str → Option Value) (base : Heap) (nm : Str) (k : Nat) (C : Con) : Prop where
  ex : ∃ f fd ps, FnOk P w K mg base (L2.CX P w) k f fd ps (SpC K C) ∧ mg nm = some (.ref f) ∧ PySem.W.keepIn K (.ref f) = true ∧ Binds K fd ps []
/-- what a context's exceptions may be -/
def Wish (X : Cx) (G : Hp) (Z : Ev → Addr → S → Mem → Prop) : Prop := ∃ W : WX, Takes X W ∧ ∀ env M σ H c s d v, Rel X.K G env M σ H → Z env c s M → H d = some (.xd [(("value" : Str), v)]) → RV X.K H s v → W (.ref c) (some d) σ H
section
variable {X : Cx} {G : Hp} {env : Ev} {M : Mem} {D : SD} {Q : QS} {a b c e o : Expr} {es : List Expr} {pos : Pos} {C : Con} {x : Str} {k j : Nat} {p : Pos}
/-- f(..), nothing raised -/
theorem se_call (F : Fn X.prog X.w X.K X.mg X.base x k C) (hr : Room j X.A) (gd : X.A.guards = some []) (hg : Gl X x) (h : SA X G (e :: es) env M fun ss M1 => C ss M1 Q E0c) (hkj : k ≤ j := by decide) (hdb : (x == ("__debug__" : Str)) = false := by decide)
    (he : starEach (e :: es) X.env = (false, eval e X.env) :: starEach es X.env := by rfl) (hpl : (backTo pos (starEach es X.env)).any (·.1) = false := by rfl) : SE X G (.Call (.Name x p) (e :: es) [] pos) env M Q := fun σ H R => by
  obtain ⟨f, fd, ps, F, hm, hk, hb⟩ := F.ex
  refine ⟨_, pe_pr (E := fun _ => E0) F (hr.mono hkj) gd hg hm hk hb (fun σ pins H s e s' I z => passL pins σ H s e s' I z) pa_S hdb he hpl, tSA_go R h fun ss M1 vs H1 k1 rvs R1 q => ?_⟩
  exact ⟨ss, M1, Q, E0c, rvs, R1.mem, q, fun s M' v H' k2 rv m' q' => ⟨s, M', k1.trans k2, rv, m', q'⟩, fun _ _ _ _ _ _ _ _ _ _ z => z.elim⟩
/-- f(..), which may raise -/
theorem se_callX {Z : Ev → Addr → S → Mem → Prop} (F : Fn X.prog X.w X.K X.mg X.base x k C) (hr : Room j X.A) (gd : X.A.guards = some []) (hz : Wish X G Z) (hg : Gl X x) (h : SA X G (e :: es) env M fun ss M1 => C ss M1 Q (Z env)) (hkj : k ≤ j := by decide) (hdb : (x == ("__debug__" : Str)) = false := by decide)
    (he : starEach (e :: es) X.env = (false, eval e X.env) :: starEach es X.env := by rfl) (hpl : (backTo pos (starEach es X.env)).any (·.1) = false := by rfl) : SE X G (.Call (.Name x p) (e :: es) [] pos) env M Q := fun σ H R => by
  obtain ⟨f, fd, ps, F, hm, hk, hb⟩ := F.ex
  obtain ⟨W, tk, hW⟩ := hz
  refine ⟨_, pe_pr F (hr.mono hkj) gd hg hm hk hb (fun σ => passAt tk σ) pa_S hdb he hpl, tSA_go R h fun ss M1 vs H1 k1 rvs R1 q => ?_⟩
  exact ⟨ss, M1, Q, Z env, rvs, R1.mem, q, fun s M' v H' k2 rv m' q' => ⟨s, M', k1.trans k2, rv, m', q'⟩, fun c s M' d v H' k2 hd rv m' z => hW env M' σ H' c s d v (R1.step k2 m') z hd rv⟩
end
/-- a context by its names, as the text has them -/
structure DX (X : Cx) (N : List Str) (sc : Scope) (k : Nat) : Prop where
  hN : X.N = N
  sc : X.env.scope = sc
  calm : X.calm = true
  nd : N.Nodup
  room : Room k X.A
  gd : X.A.guards = some []
  own : PassesOwn (model X.prog X.w) X.A X.env X.xe
  fn : ∀ x, X.fn x = true
/-- the slots at a def's entry -/
def startE (N : List Str) (ss : List S) : Ev := ss.map some ++ List.replicate (N.length - ss.length) none
section
variable {P : Program} {w : World} {K : PySem.W.Frag} {mg : Str → Option Value} {base : Heap}
theorem def_ok {x qual : Str} {st : Stmt} {f : Addr} {fd : FuncData} {N ps : List Str} {k : Nat} {C : Con} (F : Fun K x qual st f fd) (S1 : FnScope N ps (defScope st)) (len : ∀ ss M Q E, C ss M Q E → ss.length = ps.length)
    (body : ∀ (X : Cx) (G : Hp), X.prog = P → X.w = w → X.K = K → X.mg = mg → X.base = base → DX X N (defScope st) k → ∀ ss M Q E, C ss M Q E → Wish X G (fun _ c s M => E c s M) → SSs X G (defBody st) (startE N ss) M { nx := fun _ M' => Q .non M', rt := Q }) :
    FnOk P w K mg base (L2.CX P w) (k + 1) f fd ps (SpC K C) := by
  refine fn_by F S1 (fun vs H Q E h => ?_) (fun cdv A outer s H vs Q E hr hg h => ?_)
  · obtain ⟨ss, M, Q', E', r, _, hc, _⟩ := h
    rw [← r.length]
    exact len _ _ _ _ hc
  · obtain ⟨ss, M, Q', E', r, m, hc, hq, he⟩ := h
    have d : DX (cxOf (L2.CX P w) P w K mg base N qual (defScope st) f cdv A outer s H E) N (defScope st) k := ⟨rfl, rfl, rfl, S1.nd, hr, hg, passes_of rfl, fun _ => rfl⟩
    have wi : Wish (cxOf (L2.CX P w) P w K mg base N qual (defScope st) f cdv A outer s H E) H (fun _ c s M => E' c s M) := ⟨_, takes_of rfl rfl rfl rfl, fun env M σ H' c s d v R z hd rv => he c s M d v H' R.base hd rv R.mem z⟩
    have b := body _ H rfl rfl rfl rfl rfl d ss M Q' E' hc wi H Keep.refl (L2.start N vs) H ⟨Keep.refl, ?_, m⟩
    · refine ⟨_, pss_S, _, _, _, _, Keep.refl, ⟨Keep.refl, ?_, m⟩, fun G1 kG σ1 H1 R1 => body _ H rfl rfl rfl rfl rfl d ss M Q' E' hc wi G1 kG σ1 H1 R1, ⟨fun σ' H' ⟨v, M', R', q⟩ => hq _ _ _ _ R'.base .non R'.mem q, fun v H' ⟨s, M', k', rv, m', q⟩ => hq _ _ _ _ k' rv m' q, fun _ _ ⟨_, _, _, z⟩ => z.elim, fun _ _ ⟨_, _, _, z⟩ => z.elim⟩⟩
      unfold L2.start startE
      rw [← r.length]
      exact EnvR.of ss r _
    · unfold L2.start startE
      rw [← r.length]
      exact EnvR.of ss r _
end
end Sy

set_option Elab.async false
set_option linter.all false
set_option maxRecDepth 100000
/-! S7: the rules by the names of a def. -/
namespace Sy
open PySem PySem.Spec PyProof.Rows L2
/-- what a context's reading of names goes by -/
structure DN (X : Cx) (N : List Str) (sc : Scope) (k : Nat) : Prop where
  hN : X.N = N
  sc : X.env.scope = sc
  calm : X.calm = true
  room : Room k X.A
  gd : X.A.guards = some []
theorem DX.dn {X : Cx} {N : List Str} {sc : Scope} {k : Nat} (d : DX X N sc k) : DN X N sc k := ⟨d.hN, d.sc, d.calm, d.room, d.gd⟩
def nmB (N : List Str) (sc : Scope) (i : Nat) (x : Str) : Bool := decide (N[i]? = some x) && (match sc.names.lookup x with | some .local => true | some .cell => true | some .free => true | _ => false) && !(x == ("__debug__" : Str)) && !(x == ("__classdict__" : Str))
def lcB (N : List Str) (sc : Scope) (i : Nat) (x : Str) : Bool := decide (N[i]? = some x) && (match sc.names.lookup x with | some .local => true | some .cell => true | _ => false)
def loB (N : List Str) (sc : Scope) (i : Nat) (x : Str) : Bool := decide (N[i]? = some x) && (match sc.names.lookup x with | some .local => true | _ => false)
def glB (sc : Scope) (x : Str) : Bool := match sc.names.lookup x with | some .globalImplicit => true | _ => false
section
variable {X : Cx} {G : Hp} {env : Ev} {M : Mem} {D : SD} {Q : QS} {a b c e o : Expr} {es : List Expr} {pos : Pos} {N : List Str} {sc : Scope} {k : Nat} {x : Str} {p : Pos}
theorem gl_of (d : DN X N sc k) (h : glB sc x = true) : Gl X x := by
  show X.env.scope.names.lookup x = some .globalImplicit
  rw [d.sc]
  unfold glB at h
  split at h
  · assumption
  · cases h
theorem dn_name (d : DN X N sc k) (i : Nat) {s : S} (h : nmB N sc i x = true) (he : env[i]? = some (some s)) (q : Q s M) : SE X G (.Name x pos) env M Q := by
  unfold nmB at h
  simp only [Bool.and_eq_true, decide_eq_true_eq, Bool.not_eq_true'] at h
  obtain ⟨⟨⟨h1, h2⟩, h3⟩, h4⟩ := h
  refine se_name he (by rw [d.hN]; exact h1) ?_ q h3 h4
  unfold Vis
  rw [d.sc]
  split at h2
  · exact .inl (by assumption)
  · exact .inr (.inl (by assumption))
  · exact .inr (.inr (by assumption))
  · cases h2
theorem loc_of (d : DX X N sc k) {i : Nat} (h : lcB N sc i x = true) : X.N[i]? = some x ∧ Loc X.env.scope x := by
  unfold lcB at h
  simp only [Bool.and_eq_true, decide_eq_true_eq] at h
  obtain ⟨h1, h2⟩ := h
  refine ⟨by rw [d.hN]; exact h1, ?_⟩
  unfold L2.Loc
  rw [d.sc]
  split at h2
  · exact .inl (by assumption)
  · exact .inr (by assumption)
  · cases h2
theorem lo_of (d : DX X N sc k) {i : Nat} (h : loB N sc i x = true) : X.N[i]? = some x ∧ X.env.scope.names.lookup x = some .local := by
  unfold loB at h
  simp only [Bool.and_eq_true, decide_eq_true_eq] at h
  obtain ⟨h1, h2⟩ := h
  refine ⟨by rw [d.hN]; exact h1, ?_⟩
  rw [d.sc]
  split at h2
  · assumption
  · cases h2
theorem DX.ndX (d : DX X N sc k) : X.N.Nodup := by rw [d.hN]; exact d.nd
theorem dx_set (d : DX X N sc k) (i : Nat) {pos' : Pos} (h : lcB N sc i x = true) (hs : swapsWith e (some (.Name x pos')) pos.line X.env = pure false) (q : SE X G e env M fun s M' => D.nx (env.set i (some s)) M') : SS X G (.Assign [.Name x pos'] e pos) env M D :=
  ss_set q d.ndX (loc_of d h).1 (loc_of d h).2 hs (.inl (d.fn x))
theorem dx_tgt (d : DX X N sc k) (i : Nat) {s : S} {n : Ev → Mem → Prop} (h : lcB N sc i x = true) (q : n (env.set i (some s)) M) : SG X G (.Name x pos) s env M n :=
  sg_name q d.ndX (loc_of d h).1 (loc_of d h).2 (.inl (d.fn x))
theorem dx_for (d : DX X N sc k) {tg iter : Expr} {body : List Stmt} (hs : ∀ x, foldedSetIterable iter X.env x = pure x) (h : SI X G tg iter env M fun xs Gd M1 => ∃ I : Nat → Ev → Mem → Prop, I 0 env M1 ∧ (∀ i v M', I i v M' → Gd M') ∧
      (∀ i x v M', xs[i]? = some x → I i v M' → SG X G tg x v M' fun v2 M2 => SSs X G body v2 M2 { nx := I (i + 1), ct := I (i + 1), bk := D.nx, rt := D.rt }) ∧ ∀ v M', I xs.length v M' → D.nx v M') : SS X G (.For tg iter body [] pos) env M D := ss_for h d.own d.calm hs
theorem dx_par (d : DX X N sc k) (i j : Nat) {x y : Str} {px py pt : Pos} {kt k2 pt2} (hi : loB N sc i x = true) (hj : loB N sc j y = true) (hij : i ≠ j) (hw : swappedStores [.Tuple [.Name x px, .Name y py] kt pt] (.Tuple [a, b] k2 pt2) X.env = pure (some [x, y]))
    (hs : swapsWithSole [.Tuple [.Name x px, .Name y py] kt pt] (.Tuple [a, b] k2 pt2) pos.line X.env = pure false) (h : SA X G [a, b] env M fun vs M' => ∃ v w, vs = [v, w] ∧ D.nx ((env.set i (some v)).set j (some w)) M') : SS X G (.Assign [.Tuple [.Name x px, .Name y py] kt pt] (.Tuple [a, b] k2 pt2) pos) env M D :=
  ss_par h d.ndX (lo_of d hi).1 (lo_of d hj).1 hij (lo_of d hi).2 (lo_of d hj).2 hw d.calm hs
theorem dn_callB (d : DN X N sc k) {id : String} (hm : X.mg x = none) (hv : bootBuiltins x = some (.builtin id)) (hg : glB sc x = true) (hn : x ≠ "__name__") (hdb : (x == ("__debug__" : Str)) = false)
    (he : starEach (e :: es) X.env = (false, eval e X.env) :: starEach es X.env) (hpl : (backTo pos (starEach es X.env)).any (·.1) = false) (h : SA X G (e :: es) env M fun xs M1 => RB X (.builtin id) xs M1 Q) : SE X G (.Call (.Name x p) (e :: es) [] pos) env M Q := se_callB (gl_of d hg) hm hv h hn hdb he hpl
theorem dn_callT (d : DN X N sc k) {T : String} (hm : X.mg x = none) (hv : bootBuiltins x = some (.type T)) (hg : glB sc x = true) (hn : x ≠ "__name__") (hdb : (x == ("__debug__" : Str)) = false)
    (he : starEach (e :: es) X.env = (false, eval e X.env) :: starEach es X.env) (hpl : (backTo pos (starEach es X.env)).any (·.1) = false) (h : SA X G (e :: es) env M fun xs M1 => RB X (.type T) xs M1 Q) : SE X G (.Call (.Name x p) (e :: es) [] pos) env M Q := se_callT (gl_of d hg) hm hv h hn hdb he hpl
theorem dn_ty (d : DN X N sc k) {n : String} (hm : X.mg x = none) (hv : bootBuiltins x = some (.type n)) (hg : glB sc x = true) (hn : x ≠ "__name__") (hdb : (x == ("__debug__" : Str)) = false) (q : Q (.ty n) M) : SE X G (.Name x pos) env M Q := se_bltn (gl_of d hg) hm hv q hn hdb
theorem dn_call (d : DN X N sc k) {C : Con} {j : Nat} (F : Fn X.prog X.w X.K X.mg X.base x j C) (hg : glB sc x = true) (hkj : j ≤ k) (hdb : (x == ("__debug__" : Str)) = false)
    (he : starEach (e :: es) X.env = (false, eval e X.env) :: starEach es X.env) (hpl : (backTo pos (starEach es X.env)).any (·.1) = false) (h : SA X G (e :: es) env M fun ss M1 => C ss M1 Q E0c) : SE X G (.Call (.Name x p) (e :: es) [] pos) env M Q := se_call F d.room d.gd (gl_of d hg) h hkj hdb he hpl
theorem dn_callX (d : DN X N sc k) {C : Con} {j : Nat} {Z : Ev → Addr → S → Mem → Prop} (hz : Wish X G Z) (F : Fn X.prog X.w X.K X.mg X.base x j C) (hg : glB sc x = true) (hkj : j ≤ k) (hdb : (x == ("__debug__" : Str)) = false)
    (he : starEach (e :: es) X.env = (false, eval e X.env) :: starEach es X.env) (hpl : (backTo pos (starEach es X.env)).any (·.1) = false) (h : SA X G (e :: es) env M fun ss M1 => C ss M1 Q (Z env)) : SE X G (.Call (.Name x p) (e :: es) [] pos) env M Q := se_callX F d.room d.gd hz (gl_of d hg) h hkj hdb he hpl
/-- the scope of a comprehension's block -/
def blkS (sc scope : Scope) : Scope := { scope with names := scope.names.map fun (n, k) => if (k == .free && sc.kind == .function && sc.names.lookup n == some .cell) then (n, .cell) else (n, k) }
theorem DN.blk (d : DN X N sc k) {scope : Scope} {s : Shared} {H : Hp} {C : Addr} {cl : List (Str × Addr)} {fp : List Addr} : DN (X.blk s H scope (compEnvC scope cl C X.env) fp) N (blkS sc scope) k := by
  refine ⟨d.hN, ?_, d.calm, d.room, d.gd⟩
  obtain ⟨_, h, _, _, _⟩ := d
  subst h
  rfl
def loS (scope : Scope) (x : Str) : Bool := match scope.names.lookup x with | some .local => true | _ => false
theorem dx_lc (d : DN X N sc k) (nd : N.Nodup) (i : Nat) {elt iter : Expr} {scope : Scope} {x : Str} {px : Pos} (hi : (decide (N[i]? = some x) && loS scope x && blkC N sc scope [(x, i)]) = true) (hs : ∀ x, foldedSetIterable iter X.env x = pure x)
    (h : SI X G (.Name x px) iter env M fun xs Gd M1 => ∀ D, M1 D = none → ∃ I : Nat → List S → Mem → Prop, I 0 [] (updM M1 D (.lst [])) ∧ (∀ j acc M', M' D = some (.lst acc) → I j acc M' → Gd M') ∧
      (∀ j s acc M', xs[j]? = some s → M' D = some (.lst acc) → I j acc M' → ∀ (s0 : Shared) (H0 : Hp) (C0 : Addr) (cl0 : List (Str × Addr)) (fp0 : List Addr), DN (X.blk s0 H0 scope (compEnvC scope cl0 C0 X.env) fp0) N (blkS sc scope) k → SE (X.blk s0 H0 scope (compEnvC scope cl0 C0 X.env) fp0) G elt (env.set i (some s)) M' (LcQ D acc (I (j + 1)))) ∧ ∀ acc M', M' D = some (.lst acc) → I xs.length acc M' → Q (.ptr D) M') :
    SE X G (.ListComp elt [⟨.Name x px, iter, [], 0⟩] scope pos) env M Q := by
  simp only [Bool.and_eq_true, decide_eq_true_eq] at hi
  obtain ⟨⟨h1, h2⟩, h3⟩ := hi
  refine se_lc (own := [(x, i)]) (i := i) ?_ (by rw [d.hN]; exact nd) (by rw [d.hN]; exact h1) (by simp) (by rw [d.hN, d.sc]; exact blkOk_by h3) ?_ d.calm hs
  · intro σ H R
    obtain ⟨wi, p1, q1⟩ := h σ H R
    refine ⟨_, pi_S (G := G), env, M, _, R, h, fun J H' ⟨xs, Gd, M1, k1, m1, g1, z⟩ => ⟨xs, Gd, M1, k1, m1, g1, fun D hD => ?_⟩⟩
    obtain ⟨I, i0, ig, turn, fin⟩ := z D hD
    refine ⟨I, i0, ig, fun j s acc M' e1 e2 e3 => fun s0 H0 C0 cl0 fp0 => ?_, fin⟩
    have t := turn j s acc M' e1 e2 e3 s0 H0 C0 cl0 fp0 d.blk
    have e : (wipeE env ([(x, i)].map (·.2))).set i (some s) = env.set i (some s) := by
      show (env.set i none).set i (some s) = env.set i (some s)
      exact List.set_set ..
    rw [e]
    exact t
  · unfold loS at h2
    split at h2
    · assumption
    · cases h2
end
end Sy

set_option Elab.async false
set_option linter.all false
set_option maxRecDepth 100000
/-! S8: chains of comparisons; names of built-ins; small helps. -/
namespace Sy
open PySem PySem.Spec PyProof.Rows L2
theorem bf_len : bootBuiltins "len" = some (.builtin "len") := by decide +kernel
theorem bf_abs : bootBuiltins "abs" = some (.builtin "abs") := by decide +kernel
theorem bf_max : bootBuiltins "max" = some (.builtin "max") := by decide +kernel
theorem bf_min : bootBuiltins "min" = some (.builtin "min") := by decide +kernel
theorem bf_all : bootBuiltins "all" = some (.builtin "all") := by decide +kernel
theorem bf_any : bootBuiltins "any" = some (.builtin "any") := by decide +kernel
theorem bf_sum : bootBuiltins "sum" = some (.builtin "sum") := by decide +kernel
theorem bf_isinstance : bootBuiltins "isinstance" = some (.builtin "isinstance") := by decide +kernel
theorem bt_int : bootBuiltins "int" = some (.type "int") := by decide +kernel
theorem bt_bool : bootBuiltins "bool" = some (.type "bool") := by decide +kernel
theorem bt_str : bootBuiltins "str" = some (.type "str") := by decide +kernel
theorem bt_tuple : bootBuiltins "tuple" = some (.type "tuple") := by decide +kernel
theorem bt_list : bootBuiltins "list" = some (.type "list") := by decide +kernel
theorem kb_int_int : kitB "int" "int" = some true := by decide +kernel
theorem kb_bool_int : kitB "bool" "int" = some true := by decide +kernel
theorem kb_int_bool : kitB "int" "bool" = some false := by decide +kernel
theorem kb_bool_bool : kitB "bool" "bool" = some true := by decide +kernel
section
variable {X : Cx} {G : Hp} {env : Ev} {M : Mem} {D : SD} {Q : QS} {a b c e o : Expr} {es : List Expr} {pos : Pos} {N : List Str} {sc : Scope} {k : Nat} {x : Str} {p : Pos}
/-- a op b op' c -/
def RCh (X : Cx) (G : Hp) (op op' : CmpOp) (c : Expr) (env : Ev) (x y : S) (M : Mem) (Q : QS) : Prop := RC X op x y M fun z M3 => ∃ k, z = .bl k ∧ (k = false → Q (.bl false) M3) ∧ (k = true → SE X G c env M3 fun u M4 => RC X op' y u M4 Q)
theorem chain_go {op op' : CmpOp} {σ : L2.St} {H : Hp} {T : VK} (R : Rel X.K G env M σ H) (h : SE X G a env M fun x M1 => SE X G b env M1 fun y M2 => RCh X G op op' c env x y M2 Q) (hT : ∀ z H', PostE X H Q z H' → T z H') : tChain (anyO X (compareOp op)) (anyO X (compareOp op')) (tS X G a) (tS X G b) (tS X G c) σ H T :=
  tS_go R h fun x M1 v H1 k1 rv R1 q1 => tS_go R1 q1 fun y M2 w H2 k2 rw R2 q2 => by
    obtain ⟨r, hr, q⟩ := q2 v w H2 R2.mem (rv.up k2) rw
    refine ⟨_, r, hr, q, fun z H3 p => ?_⟩
    obtain ⟨s, M3, k3, rs, m3, k, e, qf, qt⟩ := p
    subst e
    cases rs
    refine ⟨k, rfl, ?_⟩
    cases k with
    | false =>
      refine iteF (hT _ _ ?_)
      exact ⟨.bl false, M3, k1.trans (k2.trans k3), .bl _, m3, qf rfl⟩
    | true =>
      refine iteT (tS_go (R2.step k3 m3) (qt rfl) fun u M4 w4 H4 k4 r4 R4 q4 => ?_)
      obtain ⟨r', hr', q'⟩ := q4 w w4 H4 R4.mem (rw.up (k3.trans k4)) r4
      exact ⟨_, r', hr', q', fun z H' p => hT _ _ (p.back (k1.trans (k2.trans (k3.trans k4))))⟩
theorem se_chain {op op' : CmpOp} (h : SE X G a env M fun x M1 => SE X G b env M1 fun y M2 => RCh X G op op' c env x y M2 Q)
    (hm : lastMarks [op, op'] [b, c] = false := by with_unfolding_all rfl) : SE X G (.Compare a [op, op'] [b, c] pos) env M Q := fun σ H R =>
  ⟨_, pe_chain opr_any opr_any (pe_S (G := G)) (pe_S (G := G)) (pe_S (G := G)) hm, chain_go R h fun _ _ p => p⟩
theorem st_chain {op op' : CmpOp} {Q : Bool → Mem → Prop} (h : SE X G a env M fun x M1 => SE X G b env M1 fun y M2 => RCh X G op op' c env x y M2 (QB Q))
    (hm : lastMarks [op, op'] [b, c] = false := by with_unfolding_all rfl) : ST X G (.Compare a [op, op'] [b, c] pos) env M Q := fun σ H R =>
  ⟨_, pt_chain opr_any opr_any (pe_S (G := G)) (pe_S (G := G)) (pe_S (G := G)) hm, chain_go R h fun _ _ p => QB.post Keep.refl p⟩
/-- ints in a chain -/
theorem rch_leI {op' : CmpOp} {i j : Int} (qf : ¬ i ≤ j → Q (.bl false) M) (qt : i ≤ j → SE X G c env M fun u M4 => RC X op' (.int j) u M4 Q) : RCh X G .LtE op' c env (.int i) (.int j) M Q :=
  rc_leI ⟨_, rfl, fun z => qf (of_decide_eq_false z), fun z => qt (of_decide_eq_true z)⟩
theorem rch_ltI {op' : CmpOp} {i j : Int} (qf : ¬ i < j → Q (.bl false) M) (qt : i < j → SE X G c env M fun u M4 => RC X op' (.int j) u M4 Q) : RCh X G .Lt op' c env (.int i) (.int j) M Q :=
  rc_ltI ⟨_, rfl, fun z => qf (of_decide_eq_false z), fun z => qt (of_decide_eq_true z)⟩
end
end Sy

set_option Elab.async false
set_option linter.all false
set_option maxRecDepth 100000
/-! S9: values whose kind is known; stores within stores; comprehensions. -/
namespace Sy
open PySem PySem.Spec PyProof.Rows L2
/-- a value whose kind is known -/
inductive Kn (M : Mem) : S → Prop
  | non : Kn M .non
  | bl (b : Bool) : Kn M (.bl b)
  | int (i : Int) : Kn M (.int i)
  | str (x : Str) : Kn M (.str x)
  | ptr {p : Addr} {o : MO} (h : M p = some o) : Kn M (.ptr p)
  | tup {ss : List S} (h : ∀ s, s ∈ ss → Kn M s) : Kn M (.tup ss)
  | rdl (ss : List S) : Kn M (.rdl ss)
theorem Kn.ty {M : Mem} {s : S} (h : Kn M s) : ∃ t, tyS M s = some t ∧ (t = "NoneType" ∨ t = "bool" ∨ t = "int" ∨ t = "str" ∨ t = "list" ∨ t = "tuple" ∨ t = "dict") := by
  cases h with
  | non => exact ⟨_, rfl, by simp⟩
  | bl b => exact ⟨_, rfl, by simp⟩
  | int i => exact ⟨_, rfl, by simp⟩
  | str x => exact ⟨_, rfl, by simp⟩
  | @ptr p o h =>
    unfold tyS
    dsimp only
    rw [h]
    cases o with
    | lst _ => exact ⟨_, rfl, by simp⟩
    | dK _ => exact ⟨_, rfl, by simp⟩
  | tup h => exact ⟨_, rfl, by simp⟩
  | rdl ss => exact ⟨_, rfl, by simp⟩
def isInt : S → Bool
  | .int _ => true
  | _ => false
def isBl : S → Bool
  | .bl _ => true
  | _ => false
def isTup : S → Bool
  | .tup _ => true
  | _ => false
section
variable {X : Cx} {M : Mem} {Q : QS}
theorem rb_isInt {s : S} (h : Kn M s) (q : Q (.bl (isInt s || isBl s)) M) : RB X (.builtin "isinstance") [s, .ty "int"] M Q := by
  cases h with
  | non => exact rb_isi rfl (by decide +kernel : kitB "NoneType" "int" = some false) q
  | bl b => exact rb_isi rfl kb_bool_int q
  | int i => exact rb_isi rfl kb_int_int q
  | str x => exact rb_isi rfl (by decide +kernel : kitB "str" "int" = some false) q
  | @ptr p o h =>
    cases o with
    | lst _ => exact rb_isi (t := "list") (by unfold tyS; dsimp only; rw [h]) (by decide +kernel : kitB "list" "int" = some false) q
    | dK _ => exact rb_isi (t := "dict") (by unfold tyS; dsimp only; rw [h]) (by decide +kernel : kitB "dict" "int" = some false) q
  | tup h => exact rb_isi rfl (by decide +kernel : kitB "tuple" "int" = some false) q
  | rdl ss => exact rb_isi rfl (by decide +kernel : kitB "list" "int" = some false) q
theorem rb_isBool {s : S} (h : Kn M s) (q : Q (.bl (isBl s)) M) : RB X (.builtin "isinstance") [s, .ty "bool"] M Q := by
  cases h with
  | non => exact rb_isi rfl (by decide +kernel : kitB "NoneType" "bool" = some false) q
  | bl b => exact rb_isi rfl kb_bool_bool q
  | int i => exact rb_isi rfl kb_int_bool q
  | str x => exact rb_isi rfl (by decide +kernel : kitB "str" "bool" = some false) q
  | @ptr p o h =>
    cases o with
    | lst _ => exact rb_isi (t := "list") (by unfold tyS; dsimp only; rw [h]) (by decide +kernel : kitB "list" "bool" = some false) q
    | dK _ => exact rb_isi (t := "dict") (by unfold tyS; dsimp only; rw [h]) (by decide +kernel : kitB "dict" "bool" = some false) q
  | tup h => exact rb_isi rfl (by decide +kernel : kitB "tuple" "bool" = some false) q
  | rdl ss => exact rb_isi rfl (by decide +kernel : kitB "list" "bool" = some false) q
theorem rb_isTup {s : S} (h : Kn M s) (q : Q (.bl (isTup s)) M) : RB X (.builtin "isinstance") [s, .ty "tuple"] M Q := by
  cases h with
  | non => exact rb_isi rfl (by decide +kernel : kitB "NoneType" "tuple" = some false) q
  | bl b => exact rb_isi rfl (by decide +kernel : kitB "bool" "tuple" = some false) q
  | int i => exact rb_isi rfl (by decide +kernel : kitB "int" "tuple" = some false) q
  | str x => exact rb_isi rfl (by decide +kernel : kitB "str" "tuple" = some false) q
  | @ptr p o h =>
    cases o with
    | lst _ => exact rb_isi (t := "list") (by unfold tyS; dsimp only; rw [h]) (by decide +kernel : kitB "list" "tuple" = some false) q
    | dK _ => exact rb_isi (t := "dict") (by unfold tyS; dsimp only; rw [h]) (by decide +kernel : kitB "dict" "tuple" = some false) q
  | tup h => exact rb_isi rfl (by decide +kernel : kitB "tuple" "tuple" = some true) q
  | rdl ss => exact rb_isi rfl (by decide +kernel : kitB "list" "tuple" = some false) q
end
theorem SE.mono {X : Cx} {G : Hp} {e : Expr} {env : Ev} {M : Mem} {Q Q' : QS} (h : SE X G e env M Q) (k : ∀ s M', Q s M' → Q' s M') : SE X G e env M Q' := fun σ H R =>
  ⟨_, pe_S (G := G), env, M, Q, R, h, fun _ _ p => p.mono k⟩
/-- a store within another one -/
def Sub (M M' : Mem) : Prop := ∀ a o, M a = some o → M' a = some o
theorem Sub.refl {M : Mem} : Sub M M := fun _ _ h => h
theorem Sub.trans {M M1 M2 : Mem} (a : Sub M M1) (b : Sub M1 M2) : Sub M M2 := fun c o h => b c o (a c o h)
theorem Sub.new {M : Mem} {p : Addr} {o : MO} (h : M p = none) : Sub M (updM M p o) := fun a u e => by rw [updM_ne (neM e h)]; exact e
theorem Sub.put {M M' : Mem} (s : Sub M M') (p : Addr) (o : MO) : Sub (updM M p o) (updM M' p o) := fun a u e => by
  by_cases h : a = p
  · rw [h, updM_same] at e; rw [h, updM_same]; exact e
  · rw [updM_ne h] at e; rw [updM_ne h]; exact s a u e
theorem Sub.mem {K : PySem.W.Frag} {M M' : Mem} {H : Hp} (s : Sub M M') (m : MemR K M' H) : MemR K M H := fun a o e => m a o (s a o e)
theorem Sub.free {M M' : Mem} {p : Addr} (s : Sub M M') (h : M' p = none) : M p = none := by
  cases e : M p with
  | none => rfl
  | some o => rw [s p o e] at h; cases h
/-- what is no longer wanted of the store may go -/
def FG (Q : QS) : QS := fun s M' => ∃ M, Sub M M' ∧ Q s M
theorem se_fg {X : Cx} {G : Hp} {e : Expr} {env : Ev} {M : Mem} {Q : QS} (h : SE X G e env M (FG Q)) : SE X G e env M Q := fun σ H R =>
  ⟨_, pe_S (G := G), env, M, _, R, h, fun _ _ ⟨s, M', a, b, c, M'', sb, q⟩ => ⟨s, M'', a, b, sb.mem c, q⟩⟩
/-- a comprehension whose items are reckoned without a change -/
theorem lc_map {X : Cx} {G : Hp} {env : Ev} {M : Mem} {Q : QS} {elt : Expr} {scope sc : Scope} {N : List Str} {k i : Nat} {xs : List S} {Gd : Mem → Prop} (f : S → S) (hl : xs.length < sizeLine) (hg : ∀ M', Sub M M' → Gd M')
    (turn : ∀ D M', M D = none → Sub M M' → ∀ s, s ∈ xs → ∀ (s0 : Shared) (H0 : Hp) (C0 : Addr) (cl0 : List (Str × Addr)) (fp0 : List Addr), DN (X.blk s0 H0 scope (compEnvC scope cl0 C0 X.env) fp0) N (blkS sc scope) k →
      SE (X.blk s0 H0 scope (compEnvC scope cl0 C0 X.env) fp0) G elt (env.set i (some s)) M' fun y M2 => y = f s ∧ Sub M' M2)
    (fin : ∀ D M', M D = none → Sub M M' → M' D = some (.lst (xs.map f)) → Q (.ptr D) M') :
    ∀ D, M D = none → ∃ I : Nat → List S → Mem → Prop, I 0 [] (updM M D (.lst [])) ∧ (∀ j acc M', M' D = some (.lst acc) → I j acc M' → Gd M') ∧
      (∀ j s acc M', xs[j]? = some s → M' D = some (.lst acc) → I j acc M' → ∀ (s0 : Shared) (H0 : Hp) (C0 : Addr) (cl0 : List (Str × Addr)) (fp0 : List Addr), DN (X.blk s0 H0 scope (compEnvC scope cl0 C0 X.env) fp0) N (blkS sc scope) k → SE (X.blk s0 H0 scope (compEnvC scope cl0 C0 X.env) fp0) G elt (env.set i (some s)) M' (LcQ D acc (I (j + 1)))) ∧ ∀ acc M', M' D = some (.lst acc) → I xs.length acc M' → Q (.ptr D) M' := by
  intro D hD
  refine ⟨fun j acc M' => acc = (xs.take j).map f ∧ Sub M M', ⟨rfl, Sub.new hD⟩, fun j acc M' _ ⟨_, e⟩ => hg M' e, fun j s acc M' es eD ⟨ea, eM⟩ s0 H0 C0 cl0 fp0 dn => ?_, fun acc M' eD ⟨ea, eM⟩ => ?_⟩
  · refine (turn D M' hD eM s (List.mem_of_getElem? es) s0 H0 C0 cl0 fp0 dn).mono fun y M2 z => ?_
    obtain ⟨e1, e2⟩ := z
    subst e1
    have hj : j < xs.length := (List.getElem?_eq_some_iff.mp es).1
    refine ⟨e2 _ _ eD, ?_, ?_, fun a o h => ?_⟩
    · rw [ea, List.length_map, List.length_take]
      omega
    · rw [ea, List.take_add_one, es, List.map_append]
      rfl
    · rw [updM_ne (neM h hD)]
      exact e2 _ _ (eM _ _ h)
  · rw [List.take_length] at ea
    rw [ea] at eD
    exact fin D M' hD eM eD
theorem Kn.up {M M' : Mem} {s : S} (h : Kn M s) (k : ∀ p, M p ≠ none → M' p ≠ none) : Kn M' s := by
  induction h with
  | non => exact .non
  | bl b => exact .bl b
  | int i => exact .int i
  | str x => exact .str x
  | @ptr p o h =>
    have z := k p (by rw [h]; exact fun z => nomatch z)
    cases e : M' p with
    | none => exact absurd e z
    | some o' => exact .ptr e
  | tup _ ih => exact .tup ih
  | rdl ss => exact .rdl ss
theorem Kn.put {M : Mem} {s : S} {p : Addr} {o : MO} (h : Kn M s) : Kn (updM M p o) s := h.up fun q hq => by
  by_cases e : q = p
  · rw [e, updM_same]; exact fun z => nomatch z
  · rw [updM_ne e]; exact hq
theorem Kn.sub {M M' : Mem} {s : S} (h : Kn M s) (k : Sub M M') : Kn M' s := h.up fun p hp => by
  cases e : M p with
  | none => exact absurd e hp
  | some o => rw [k p o e]; exact fun z => nomatch z
/-- [elt for x in iter], each item reckoned by f without a change of what stands -/
theorem dx_map {X : Cx} {G : Hp} {env : Ev} {M : Mem} {Q : QS} {N : List Str} {sc : Scope} {k : Nat} (d : DN X N sc k) (nd : N.Nodup) (i : Nat) {elt iter : Expr} {scope : Scope} {x : Str} {px pos : Pos} (hi : (decide (N[i]? = some x) && loS scope x && blkC N sc scope [(x, i)]) = true) (hs : ∀ x, foldedSetIterable iter X.env x = pure x)
    (h : SI X G (.Name x px) iter env M fun xs Gd M1 => ∃ f : S → S, xs.length < sizeLine ∧ (∀ M', Sub M1 M' → Gd M') ∧ (∀ D M', M1 D = none → Sub M1 M' → ∀ s, s ∈ xs → ∀ (s0 : Shared) (H0 : Hp) (C0 : Addr) (cl0 : List (Str × Addr)) (fp0 : List Addr), DN (X.blk s0 H0 scope (compEnvC scope cl0 C0 X.env) fp0) N (blkS sc scope) k →
      SE (X.blk s0 H0 scope (compEnvC scope cl0 C0 X.env) fp0) G elt (env.set i (some s)) M' fun y M2 => y = f s ∧ Sub M' M2) ∧ ∀ D M', M1 D = none → Sub M1 M' → M' D = some (.lst (xs.map f)) → Q (.ptr D) M') :
    SE X G (.ListComp elt [⟨.Name x px, iter, [], 0⟩] scope pos) env M Q := by
  refine dx_lc d nd i hi hs fun σ H R => ⟨_, pi_S (G := G), env, M, _, R, h, fun J H' ⟨xs, Gd, M1, k1, m1, g1, f, a, b, c, e⟩ => ⟨xs, Gd, M1, k1, m1, g1, ?_⟩⟩
  exact lc_map f a b c e
theorem inV_ints (i : Int) : ∀ ns : List Int, inV (.int i) (ns.map V.int) = ns.contains i
  | [] => rfl
  | a :: r => by
    have ih := inV_ints i r
    unfold inV at ih ⊢
    rw [List.map_cons, List.any_cons, ih, List.contains_cons]
    have e : eqV (V.int a) (.int i) = (i == a) := by
      show (a == i) = (i == a)
      exact Bool.beq_comm
    rw [e]
theorem rc_notInI {X : Cx} {M : Mem} {Q : QS} {i : Int} {ns : List Int} (q : Q (.bl (!ns.contains i)) M) : RC X .NotIn (.int i) (.tup (ns.map S.int)) M Q := fun v w H m r1 r2 => by
  cases r1
  cases r2 with
  | tup h1 h2 =>
    have e := rvs_ints h2
    subst e
    refine ⟨_, op_notIn_seq, _, _, rfl, .inr h1.sq, rfl, ?_, ?_⟩
    · rw [List.all_eq_true]
      intro x hx
      obtain ⟨n, _, rfl⟩ := List.mem_map.mp hx
      rfl
    · rw [inV_ints]
      exact pack (.bl _) m q
end Sy

set_option Elab.async false
set_option linter.all false
set_option maxRecDepth 100000
/-! S10: calls by keywords; deep ==; dict displays; is of truth values. -/
namespace Sy
open PySem PySem.Spec PyProof.Rows L2
/-- a call f(k = v, ..), keywords alone, in the parameters' order -/
structure FnK (P : Program) (w : World) (K : PySem.W.Frag) (mg : Str → Option Value) (base : Heap) (nm : Str) (k : Nat) (ps : List Str) (C : Con) : Prop where
  ex : ∃ f fd, FnOk P w K mg base (L2.CX P w) k f fd ps (SpC K C) ∧ mg nm = some (.ref f) ∧ PySem.W.keepIn K (.ref f) = true ∧ ∀ (s : Shared) (ws : List Value), K.In s.heap → ws.length = ps.length → BindsTo s fd ⟨[], ps.zip ws⟩ (ps.zip ws)
section
variable {X : Cx} {G : Hp} {env : Ev} {M : Mem} {D : SD} {Q : QS} {a b c e o : Expr} {es : List Expr} {pos : Pos} {N : List Str} {sc : Scope} {k : Nat} {x : Str} {p : Pos}
def SK (X : Cx) (G : Hp) (es : List Keyword) (env : Ev) (M : Mem) (Q : List S → Mem → Prop) : Prop := ∀ σ H, Rel X.K G env M σ H → ∃ t, PK X es t ∧ t σ H (PostA X H Q)
def tSK (X : Cx) (G : Hp) (es : List Keyword) : TA := fun σ H R => ∃ env M Q, Rel X.K G env M σ H ∧ SK X G es env M Q ∧ ∀ v H', PostA X H Q v H' → R v H'
theorem pk_S {es : List Keyword} : PK X es (tSK X G es) := ⟨fun pos pins s σ H R I h => by
  obtain ⟨env, M, Q, r, hs, k⟩ := h
  obtain ⟨t, p, ht⟩ := hs σ H r
  exact thn (p.run pos pins s σ H _ I ht) fun u s1 ⟨v, H', I', rv, q⟩ => ⟨v, H', I', rv, k v H' q⟩⟩
theorem sk_nil {Q : List S → Mem → Prop} (q : Q [] M) : SK X G [] env M Q := fun σ H R => ⟨_, pk_nil, [], M, Keep.refl, .nil, R.mem, q⟩
theorem sk_cons {Q : List S → Mem → Prop} {nm : Option Str} {kpos : Pos} {ks : List Keyword} (h : SE X G e env M fun x M1 => SK X G ks env M1 fun xs M2 => Q (x :: xs) M2) : SK X G (⟨nm, e, kpos⟩ :: ks) env M Q := fun σ H R =>
  ⟨_, pk_cons (te := tS X G e) pe_S pk_S, tS_go R h fun x M1 v H1 k1 rv R1 q1 => by
    obtain ⟨t, p, q⟩ := q1 σ H1 R1
    exact ⟨env, M1, _, R1, q1, fun xs H2 ⟨ss, M2, k2, rvs, m2, q2⟩ => ⟨x :: ss, M2, k1.trans k2, .cons (rv.up k2) rvs, m2, q2⟩⟩⟩
theorem dn_kw (d : DN X N sc k) {C : Con} {j : Nat} {ps : List Str} {kws : List Keyword} (F : FnK X.prog X.w X.K X.mg X.base x j ps C) (hg : glB sc x = true) (hkj : j ≤ k) (hdb : (x == ("__debug__" : Str)) = false)
    (hall : (backToKw pos (keywordEach kws X.env)).all (·.1.isSome) = true) (hks : (backToKw pos (keywordEach kws X.env)).filterMap (·.1) = ps) (hpl : ((backTo pos (starEach [] X.env)).any (·.1) || (backToKw pos (keywordEach kws X.env)).any (·.1.isNone)) = false)
    (h : SK X G kws env M fun ss M1 => C ss M1 Q E0c) : SE X G (.Call (.Name x p) [] kws pos) env M Q := by
  obtain ⟨f, fd, F, hm, hk, hb⟩ := F.ex
  have F := F.mono hkj
  have hg := gl_of d hg
  intro σ H R
  refine ⟨fun σ H T => tSK X G kws σ H fun zs H2 => SpC X.K C zs H2 T E0, ⟨fun pins s σ H T I h => ?_⟩, env, M, _, R, h, fun vs H1 ⟨ss, M1, k1, rvs, m1, q⟩ => ⟨ss, M1, Q, E0c, rvs, m1, q, fun s M' v H' k2 rv m' q' => ⟨s, M', k1.trans k2, rv, m', q'⟩, fun _ _ _ _ _ _ _ _ _ _ z => z.elim⟩⟩
  refine wpAny_Call_Name_kw (ld_glob I hg hm ?_ hdb)
  refine PySem.W.callWith_KW0 (h₀ := X.base) I.ok.mod.kin hk hall ?_ hpl
  refine thn ((pk_S (G := G)).run pos pins s σ H _ I h) fun ws s2 ⟨zs, H2, I2, rz, q2⟩ => ⟨I2.kIn, ?_⟩
  rw [hks]
  have hl : ws.length = ps.length := by rw [← rz.length]; exact F.len _ _ _ _ q2
  have hb2 := hb s2 ws I2.kIn hl
  refine wpAny_call (codeAny_mono (F.run X.A X.stack s2 H2 ⟨[], ps.zip ws⟩ ws zs T E0 d.room d.gd I2.env0 hb2 rz q2) fun r s' hq => ?_)
  cases r with
  | error e => exact passL pins σ H2 s2 e s' I2 hq
  | ok fl =>
    cases fl with
    | ret u => exact I2.after hq
    | next => exact False.elim hq
    | brk => exact False.elim hq
    | cont => exact False.elim hq
theorem rc_isB {i j : Bool} (q : Q (.bl (decide (i = j))) M) : RC X .Is (.bl i) (.bl j) M Q := fun v w H m r1 r2 => by
  cases r1; cases r2; exact ⟨_, op_isBl, i, j, rfl, rfl, pack (.bl _) m q⟩
theorem rc_notB {i j : Bool} (q : Q (.bl (!decide (i = j))) M) : RC X .IsNot (.bl i) (.bl j) M Q := fun v w H m r1 r2 => by
  cases r1; cases r2; exact ⟨_, op_notBl, i, j, rfl, rfl, pack (.bl _) m q⟩
theorem se_dict0 (q : ∀ p, M p = none → Q (.ptr p) (updM M p (.dK []))) : SE X G (.Dict [] [] pos) env M Q := fun σ H R =>
  ⟨_, pe_dnewK, fun p hp => ⟨.ptr p, _, keep_new hp, .ptr p, R.mem.put (u := .dK []) (keep_new hp) ⟨[], upd_same, .nil⟩, q p (R.mem.free hp)⟩⟩
/-! ### data at any depth -/
mutual
inductive Dat (M : Mem) : S → PyData → Prop
  | non : Dat M .non .none
  | bl (b : Bool) : Dat M (.bl b) (.bool b)
  | int (i : Int) : Dat M (.int i) (.int i)
  | str (x : Str) : Dat M (.str x) (.str x)
  | tup {ss : List S} {ds : List PyData} (h : Dats M ss ds) : Dat M (.tup ss) (.tuple ds)
  | lst {p : Addr} {ss : List S} {ds : List PyData} (e : M p = some (.lst ss)) (h : Dats M ss ds) : Dat M (.ptr p) (.list ds)
inductive Dats (M : Mem) : List S → List PyData → Prop
  | nil : Dats M [] []
  | cons {s : S} {d : PyData} {ss : List S} {ds : List PyData} (h : Dat M s d) (t : Dats M ss ds) : Dats M (s :: ss) (d :: ds)
end
section
variable {K : PySem.W.Frag} {H : Hp}
mutual
theorem Dat.dp (m : MemR K M H) : ∀ (d : PyData) (s : S) (v : V), Dat M s d → RV K H s v → Dp K H v d
  | .none, _, _, h, r => by cases h; cases r; exact .non
  | .bool b, _, _, h, r => by cases h; cases r; exact .bl b
  | .int i, _, _, h, r => by cases h; cases r; exact .int i
  | .str x, _, _, h, r => by cases h; cases r; exact .str x
  | .tuple ds, _, _, h, r => by
    cases h with
    | tup h => cases r with
      | tup a b => exact .tup a.sq (Dats.dp m ds _ _ h b)
  | .list ds, _, _, h, r => by
    cases h with
    | lst e h =>
      cases r
      obtain ⟨vs, h1, h2⟩ := m _ _ e
      exact .lst (SqL.of h1) (Dats.dp m ds _ _ h h2)
  | .dict _, _, _, h, _ => by cases h
theorem Dats.dp (m : MemR K M H) : ∀ (ds : List PyData) (ss : List S) (vs : List V), Dats M ss ds → RVs K H ss vs → DpAll K H vs ds
  | [], _, _, h, r => by cases h; cases r; exact .nil
  | d :: ds, _, _, h, r => by
    cases h with
    | cons a b => cases r with
      | cons c e => exact .cons (Dat.dp m d _ _ a c) (Dats.dp m ds _ _ b e)
end
end
theorem rc_eqD {s t : S} {d e : PyData} (dn : DN X N sc k) (hd : Dat M s d) (he : Dat M t e) (sd : SeqAt.shaped d = true) (se : SeqAt.shaped e = true) (q : Q (.bl (PyData.eqv d e)) M) : RC X .Eq s t M Q := fun v w H m r1 r2 =>
  ⟨_, op_eqD dn.room.units, d, e, hd.dp m _ _ _ r1, he.dp m _ _ _ r2, sd, se, pack (.bl _) m q⟩
theorem rc_neD {s t : S} {d e : PyData} (dn : DN X N sc k) (hd : Dat M s d) (he : Dat M t e) (sd : SeqAt.shaped d = true) (se : SeqAt.shaped e = true) (q : Q (.bl (!PyData.eqv d e)) M) : RC X .NotEq s t M Q := fun v w H m r1 r2 =>
  ⟨_, op_neD dn.room.units, d, e, hd.dp m _ _ _ r1, he.dp m _ _ _ r2, sd, se, pack (.bl _) m q⟩
end
end Sy

set_option Elab.async false
set_option linter.all false
set_option maxRecDepth 100000
/-! S11: name = [.. for ..]. -/
namespace Sy
open PySem PySem.Spec PyProof.Rows L2
section
variable {X : Cx} {G : Hp} {env : Ev} {M : Mem} {D : SD} {Q : QS} {pos : Pos} {N : List Str} {sc : Scope} {k : Nat}
/-- what a comprehension over xs wants -/
def LcW (X : Cx) (G : Hp) (env : Ev) (scope : Scope) (vs : List Nat) (i : Nat) (elt : Expr) (Q : QS) (xs : List S) (Gd : Mem → Prop) (M1 : Mem) : Prop := ∀ D, M1 D = none → ∃ I : Nat → List S → Mem → Prop, I 0 [] (updM M1 D (.lst [])) ∧ (∀ j acc M', M' D = some (.lst acc) → I j acc M' → Gd M') ∧
      (∀ j s acc M', xs[j]? = some s → M' D = some (.lst acc) → I j acc M' → SEb X G scope elt ((wipeE env vs).set i (some s)) M' (LcQ D acc (I (j + 1)))) ∧ ∀ acc M', M' D = some (.lst acc) → I xs.length acc M' → Q (.ptr D) M'
theorem tlc_go {tg elt iter : Expr} {scope : Scope} {vs : List Nat} {i : Nat} {σ : L2.St} {H : Hp} {T : VK} (R : Rel X.K G env M σ H) (h : SI X G tg iter env M (LcW X G env scope vs i elt Q)) (hm : i ∈ vs) (hT : ∀ v H', PostE X H Q v H' → T v H') :
    tLc (tSI X G tg iter) (gName i) tYes (tSEb X G scope elt) vs σ H T := by
  refine ⟨env, M, _, R, h, fun J H1 ⟨xs, Gd, M1, k1, m1, gv, q⟩ D hD => ?_⟩
  obtain ⟨I, i0, ig, turn, fin⟩ := q D (m1.free hD)
  refine ⟨fun j m H' => m = xs.length - j ∧ j ≤ xs.length ∧ ∃ acc M', MemR X.K M' H' ∧ Keep X.K H1 H' ∧ M' D = some (.lst acc) ∧ I j acc M', ⟨xs.length, rfl, Nat.zero_le _, [], _, put_lst m1 hD .nil, keep_new hD, updM_same, i0⟩, ?_⟩
  rintro j m H' ⟨rfl, hj, acc, M', m', k', hMD, hI⟩
  by_cases hlt : j < xs.length
  · refine .inr ⟨gv.go j M' H' m' k' (ig _ _ _ hMD hI) hlt, fun H2 => ∃ acc M', MemR X.K M' H2 ∧ Keep X.K H1 H2 ∧ M' D = some (.lst acc) ∧ I (j + 1) acc M', fun H2 z => ⟨xs.length - (j + 1), by omega, rfl, hlt, z⟩, fun v H'' y => ?_⟩
    obtain ⟨s, es, rs, k2, m2⟩ := gv.yld j M' H' v H'' m' k' (ig _ _ _ hMD hI) hlt y
    have kk := k1.trans (k'.trans k2)
    refine ⟨wipe_set hm, ?_⟩
    dsimp only [tYes]
    rw [if_pos rfl]
    refine ⟨_, M', _, ?_, turn j s acc M' es hMD hI, fun w H3 p => ?_⟩
    · exact (((R.step kk m2).wipe _).set rs i)
    · obtain ⟨us, a1, a2, acc', M3, a3, a4, a5, a6⟩ := lcq_ok (k'.trans k2) p
      exact ⟨us, a1, a2, acc', M3, a3, a4, a5, a6⟩
  · have e : j = xs.length := by omega
    subst e
    exact .inl ⟨gv.stop M' H' m' k' (ig _ _ _ hMD hI), hT _ _ ⟨.ptr D, M', k1.trans k', .ptr D, m', fin acc M' hMD hI⟩⟩
/-- y = [elt for x in iter], y a local name -/
theorem dx_setLc (d : DX X N sc k) (jy : Nat) (i : Nat) {elt iter : Expr} {scope : Scope} {x y : Str} {px py spos : Pos} (hy : loB N sc jy y = true) (hi : (decide (N[i]? = some x) && loS scope x && blkC N sc scope [(x, i)]) = true) (hs : ∀ x, foldedSetIterable iter X.env x = pure x)
    (hl : (py.line == pos.line) = true) (hb : (scope.names.any fun (n, k) => n == y && (k == .local || k == .cell)) = false) (hk : sc.kind = .function)
    (h : SI X G (.Name x px) iter env M fun xs Gd M1 => ∀ D1, M1 D1 = none → ∃ I : Nat → List S → Mem → Prop, I 0 [] (updM M1 D1 (.lst [])) ∧ (∀ j acc M', M' D1 = some (.lst acc) → I j acc M' → Gd M') ∧
      (∀ j s acc M', xs[j]? = some s → M' D1 = some (.lst acc) → I j acc M' → ∀ (s0 : Shared) (H0 : Hp) (C0 : Addr) (cl0 : List (Str × Addr)) (fp0 : List Addr), DN (X.blk s0 H0 scope (compEnvC scope cl0 C0 X.env) fp0) N (blkS sc scope) k → SE (X.blk s0 H0 scope (compEnvC scope cl0 C0 X.env) fp0) G elt (env.set i (some s)) M' (LcQ D1 acc (I (j + 1)))) ∧ ∀ acc M', M' D1 = some (.lst acc) → I xs.length acc M' → D.nx (env.set jy (some (.ptr D1))) M') :
    SS X G (.Assign [.Name y py] (.ListComp elt [⟨.Name x px, iter, [], 0⟩] scope pos) spos) env M D := fun G1 kG σ H R => by
  simp only [Bool.and_eq_true, decide_eq_true_eq] at hi
  obtain ⟨⟨h1, h2⟩, h3⟩ := hi
  have hf : scope.names.lookup x = some .local := by
    unfold loS at h2
    split at h2
    · assumption
    · cases h2
  have hN := d.ndX
  have hix : X.N[i]? = some x := by rw [d.hN]; exact h1
  have hkf : X.env.scope.kind = .function := by rw [d.sc]; exact hk
  refine ⟨_, ps_setLc (own := [(x, i)]) (tt := tYes) (te := tSEb X G scope elt) (g := gName i) d.calm hN (lo_of d hy).1 (lo_of d hy).2 (sw_true hkf (lo_of d hy).2 hl hb) (pi_S (G := G)) (by rw [d.hN, d.sc]; exact blkOk_by h3)
    (fun s H C cl fp => pg_name (X := X.blk s H scope (compEnvC scope cl C X.env) fp) hN hix (.inl (PySem.lookup_relabel_local hf)) (.inr (PySem.lookup_relabel_local hf))) (fun _ _ _ _ _ => pts_nil) (fun _ _ _ _ _ => pe_Sb) hs, ?_⟩
  refine tlc_go (Q := fun s M' => D.nx (env.set jy (some s)) M') (R.weak kG) (fun σ H R => ?_) (by simp) fun v H' ⟨s, M', k1, rv, m', q⟩ => ⟨env.set jy (some s), M', (R.step k1 m').set rv jy, q⟩
  refine ⟨_, pi_S (G := G), env, M, _, R, h, fun J H' ⟨xs, Gd, M1, k1, m1, g1, z⟩ => ⟨xs, Gd, M1, k1, m1, g1, fun D1 hD => ?_⟩⟩
  obtain ⟨I, i0, ig, turn, fin⟩ := z D1 hD
  refine ⟨I, i0, ig, fun j s acc M' e1 e2 e3 => fun s0 H0 C0 cl0 fp0 => ?_, fin⟩
  have t := turn j s acc M' e1 e2 e3 s0 H0 C0 cl0 fp0 d.dn.blk
  have e : (wipeE env ([(x, i)].map (·.2))).set i (some s) = env.set i (some s) := by
    show (env.set i none).set i (some s) = env.set i (some s)
    exact List.set_set ..
  rw [e]
  exact t
end
end Sy

set_option Elab.async false
set_option linter.all false
set_option maxRecDepth 100000
/-! S12: joined ways; an item at an open place; slices told; a store that grows but for one list. -/
namespace Sy
open PySem PySem.Spec PyProof.Rows L2
section
variable {X : Cx} {G : Hp} {env : Ev} {M : Mem} {D : SD} {Q : QS} {pos : Pos} {st : Stmt} {sts : List Stmt}
theorem sb_cut (R : Ev → Mem → Prop) (h : SS X G st env M { nx := R, rt := D.rt, bk := D.bk, ct := D.ct }) (k : ∀ env' M', R env' M' → SSs X G sts env' M' D) : SSs X G (st :: sts) env M D :=
  sb_cons (ss_le h k (fun _ _ q => q) (fun _ _ q => q) (fun _ _ q => q))
theorem rx_mem {p : Addr} {xs : List S} {i : Int} (hp : M p = some (.lst xs)) (h0 : 0 ≤ i) (h1 : i < xs.length) (q : ∀ s, s ∈ xs → Q s M) : RX X (.ptr p) (.int i) M Q := by
  have hi : i.toNat < xs.length := by omega
  have e : ((i.toNat : Nat) : Int) = i := by omega
  have z : atI xs ((i.toNat : Nat) : Int) = some xs[i.toNat] := atI_nat (List.getElem?_eq_getElem hi)
  rw [e] at z
  exact rx_lst hp z (q _ (List.getElem_mem hi))
theorem atI_in {xs : List S} {i : Int} (h0 : 0 ≤ i) (h1 : i < xs.length) : ∃ s, atI xs i = some s ∧ xs[i.toNat]? = some s ∧ s ∈ xs := by
  have hi : i.toNat < xs.length := by omega
  have e : ((i.toNat : Nat) : Int) = i := by omega
  have z : atI xs ((i.toNat : Nat) : Int) = some xs[i.toNat] := atI_nat (List.getElem?_eq_getElem hi)
  rw [e] at z
  exact ⟨_, z, List.getElem?_eq_getElem hi, List.getElem_mem hi⟩
end
theorem cut_to (xs : List S) (k : Nat) : cutS xs none (some (k : Int)) = xs.take k := by
  unfold cutS
  rw [HT.sIx_none, HT.sIx_nat, List.drop_zero, Nat.sub_zero]
  by_cases h : k ≤ xs.length
  · rw [Nat.min_eq_left h]
  · rw [Nat.min_eq_right (by omega), List.take_length, List.take_of_length_le (by omega)]
theorem cut_from (xs : List S) (k : Nat) : cutS xs (some (k : Int)) none = xs.drop k := by
  unfold cutS
  rw [HT.sIx_none, HT.sIx_nat]
  by_cases h : k ≤ xs.length
  · rw [Nat.min_eq_left h]
    exact List.take_of_length_le (by rw [List.length_drop]; omega)
  · rw [Nat.min_eq_right (by omega), List.drop_length, List.drop_of_length_le (by omega), List.take_nil]
end Sy

set_option Elab.async false
set_option linter.all false
set_option maxRecDepth 100000
/-! S13: {k: i, ..} of constants; what stands in the dict is left open. -/
namespace Sy
open PySem PySem.Spec PyProof.Rows L2
/-- keys ints or texts, values ints, all constants -/
inductive PPc : List (Option Expr) → List Expr → List (Key × V) → Prop
  | nil : PPc [] [] []
  | int {i v : Int} {a b pa pb ks vs l} (t : PPc ks vs l) : PPc (some (.Constant (.int i) a pa) :: ks) (.Constant (.int v) b pb :: vs) ((Sum.inl i, .int v) :: l)
  | str {i : Str} {v : Int} {a b pa pb ks vs l} (t : PPc ks vs l) : PPc (some (.Constant (.str i) a pa) :: ks) (.Constant (.int v) b pb :: vs) ((Sum.inr i, .int v) :: l)
theorem upd2 {H : Hp} {p : Addr} {a b : HO} : upd (upd H p a) p b = upd H p b := by
  funext x; unfold upd; split <;> rfl
theorem kr_some {K : PySem.W.Frag} {H : Hp} : ∀ {ws : List (Key × V)}, (∀ q, q ∈ ws → ∃ i, q.2 = V.int i) → ∃ ss, KR K H ss ws
  | [], _ => ⟨[], .nil⟩
  | (k, v) :: ws, h => by
    obtain ⟨ss, r⟩ := kr_some (ws := ws) fun q hq => h q (List.mem_cons_of_mem _ hq)
    obtain ⟨i, e⟩ := h (k, v) List.mem_cons_self
    have e : v = V.int i := e
    subst e
    exact ⟨(k, .int i) :: ss, .cons (.int i) r⟩
theorem putK_int {kvs : List (Key × V)} {k : Key} {j : Int} (h : ∀ q, q ∈ kvs → ∃ i, q.2 = V.int i) : ∀ q, q ∈ putK kvs k (V.int j) → ∃ i, q.2 = V.int i := by
  intro q hq
  unfold putK at hq
  split at hq
  · obtain ⟨kv, hkv, rfl⟩ := List.mem_map.mp hq
    split
    · exact ⟨j, rfl⟩
    · exact h kv hkv
  · rcases List.mem_append.mp hq with z | z
    · exact h q z
    · rw [List.mem_singleton.mp z]; exact ⟨j, rfl⟩
theorem mergeK_int : ∀ {more kvs : List (Key × V)}, (∀ q, q ∈ kvs → ∃ i, q.2 = V.int i) → (∀ q, q ∈ more → ∃ i, q.2 = V.int i) → ∀ q, q ∈ mergeK kvs more → ∃ i, q.2 = V.int i
  | [], kvs, h, _ => h
  | (k, v) :: more, kvs, h, h2 => by
    obtain ⟨j, e⟩ := h2 (k, v) List.mem_cons_self
    have e : v = V.int j := e
    subst e
    exact mergeK_int (more := more) (kvs := putK kvs k (.int j)) (putK_int h) fun q hq => h2 q (List.mem_cons_of_mem _ hq)
theorem PPc.ints {ks vs l} (h : PPc ks vs l) : ∀ q, q ∈ l → ∃ i, q.2 = V.int i := by
  induction h with
  | nil => exact fun q hq => nomatch hq
  | int t ih => intro q hq; rcases List.mem_cons.mp hq with rfl | z; exact ⟨_, rfl⟩; exact ih q z
  | str t ih => intro q hq; rcases List.mem_cons.mp hq with rfl | z; exact ⟨_, rfl⟩; exact ih q z
theorem PPc.pps {X : Cx} {pos : Pos} {ks vs l} (h : PPc ks vs l) : ∃ trs, PPs X pos ks vs trs ∧ ∀ σ H (Q : List (V × V) → Hp → Prop), Q (l.map fun kv => (kV kv.1, kv.2)) H → tPairs trs σ H Q := by
  induction h with
  | nil => exact ⟨_, pps_nil, fun σ H Q q => q⟩
  | int t ih =>
    obtain ⟨trs, h1, h2⟩ := ih
    exact ⟨_, pps_cons pe_int pe_int h1, fun σ H Q q => h2 σ H _ q⟩
  | str t ih =>
    obtain ⟨trs, h1, h2⟩ := ih
    exact ⟨_, pps_cons pe_str pe_int h1, fun σ H Q q => h2 σ H _ q⟩
theorem se_dictC {X : Cx} {G : Hp} {env : Ev} {M : Mem} {Q : QS} {pos : Pos} {ks : List (Option Expr)} {vs : List Expr} {l : List (Key × V)} (h : PPc ks vs l) (h0 : ks ≠ []) (h15 : l.length ≤ 15) (hk : ks.length = l.length) (hv : vs.length = l.length) (ha : ks.all (·.isSome) = true)
    (q : ∀ p o, M p = none → Q (.ptr p) (updM M p (.dK o))) : SE X G (.Dict ks vs pos) env M Q := fun σ H R => by
  obtain ⟨trs, h1, h2⟩ := h.pps (X := X) (pos := pos)
  refine ⟨_, pe_disp h1 ha (by omega) h0 (by omega), fun p hp => h2 _ _ _ ?_⟩
  obtain ⟨ss, hs⟩ := kr_some (K := X.K) (H := upd H p (.dK (mergeK [] l))) (mergeK_int (kvs := []) (fun q hq => nomatch hq) h.ints)
  refine ⟨upd_same, l, rfl, h15, .ptr p, updM M p (.dK ss), ?_, .ptr p, ?_, q p ss (R.mem.free hp)⟩
  · rw [upd2]; exact keep_new hp
  · rw [upd2]; exact R.mem.put (u := .dK ss) (keep_new hp) ⟨_, upd_same, hs⟩
end Sy

set_option Elab.async false
set_option linter.all false
set_option maxRecDepth 100000
/-! S14: try: .. except X as n: .., the exception known also behind the suite. -/
namespace Sy
open PySem PySem.Spec PyProof.Rows L2
theorem exH_ok {P : Program} {w : World} {H : Hp} {h : Heap} {cls : Value} {d : Option Addr} {a : Addr} {o : Obj} {vs : Array Value} (e : h.get? a = some o) (z : Zc cls d o) (q : o.data = .fields vs) : ObjOk P w H h a (exH cls d a) :=
  ⟨⟨o, vs, e, z, q⟩, ⟨o, e⟩, fun _ _ ⟨o', vs', e', z', q'⟩ k => ⟨o', vs', k o' e', z', q'⟩⟩
section
variable {X : Cx} {pins : List (Addr × Obj)} {σ : L2.St} {H : Hp} {s : Shared}
/-- an object made since the entry is taken into the abstract heap as it stands -/
theorem inv_track {a : Addr} {o : HO} {ob : Obj} (I : Inv X pins σ H s) (ha : s.heap.get? a = some ob) (nc : ∀ v, ob.data ≠ .cell v) (hn : H a = none) (h0 : X.s_0.heap.get? a = none) (nL : a ≠ X.env.locals)
    (np : ∀ p, p ∈ X.pn ++ pins → p.1 ≠ a) (new : ObjOk X.prog X.w (upd H a o) s.heap a o) : Inv X pins σ (upd H a o) s := by
  obtain ⟨i1, i2, i3, ⟨b1, b2, b3, b4, b5, b6, b7⟩, i5, i6, i7, i8, i9, i10, i11⟩ := I
  have old : ∀ b u, H b = some u → upd H a o b = some u := fun b u e => (upd_ne (ne_of_none e hn)).trans e
  have non : ∀ b, b ≠ a → H b = none → upd H a o b = none := fun b e z => (upd_ne e).trans z
  refine ⟨i1, i2, i3, ⟨b1, b2, fun b u e z x => ?_, b4, fun b xs e => old _ _ (b5 b xs e), fun b u xs e => old _ _ (b6 b u xs e), fun b ps e => ?_⟩, i5, i6, non _ (Ne.symm nL) i7, fun x c e => ?_, fun p hp => ?_, HOk.laidN i10 (fun _ _ e => e) hn new, i11⟩
  · exact non b (fun q => by rw [q, h0] at e; cases e) (b3 b u e z x)
  · obtain ⟨more, q⟩ := b7 b ps e
    exact ⟨more, old _ _ q⟩
  · obtain ⟨v, hv⟩ := i6 x c e
    refine non c (fun q => ?_) (i8 x c e)
    subst q
    obtain ⟨oc, hc1, hc2⟩ := hv
    rw [ha] at hc1
    cases hc1
    exact nc v hc2
  · obtain ⟨p1, p2, p3⟩ := i9 p hp
    exact ⟨p1, non _ (np p hp) p2, p3⟩
end
/-- as wAs, the exception kept as it stands behind the suite -/
def wHold (K : PySem.W.Frag) (c : Value) (i : Nat) (ts : Addr → Value → Option Addr → TS) (Wout : WX) (D : Ends) : WX := fun cls d σ H => ∃ b, PySem.W.exmOne K cls c = some b ∧ (b = false → Wout cls d σ H) ∧
  (b = true → ∀ a, H a = none → ts a cls d ⟨fun σ' H' => D.nx (σ'.set i none) (upd H' a (exH cls d a)), fun v H' => D.rt v (upd H' a (exH cls d a)), fun σ' H' => D.bk (σ'.set i none) (upd H' a (exH cls d a)), fun σ' H' => D.ct (σ'.set i none) (upd H' a (exH cls d a))⟩ (σ.set i (some (.ref a))) H)
section
variable {X : Cx} {x n : Str} {c : Value} {i : Nat} {body rest : List Stmt} {st : Stmt} {p1 p2 p3 : Pos} {tb : WX → TS} {ts : Addr → Value → Option Addr → TS} {Wout : WX}
theorem ps_try_hold (stk : X.stack = X.env :: X.outer) (own : X.env.frame = some X.env.locals) (nd : X.N.Nodup) (at_i : X.N[i]? = some n) (loc : X.env.kindOf n = some .local) (nm : Names X x c) (tk : Takes X Wout) (hex : X.ex = [])
    (hb : ∀ (W : WX) (pn : List (Addr × Obj)) (xe : Value → Shared → Prop), Takes (X.tr pn xe) W → PassesOwn (model X.prog X.w) X.A X.env xe → PSs (X.tr pn xe) body (tb W))
    (hsu : ∀ (a : Addr) (oe : Obj) (cls : Value) (d : Option Addr) (pn : List (Addr × Obj)), Zc cls d oe → (∃ vs, oe.data = .fields vs) → PSs (X.suite a ((a, oe) :: pn)) (st :: rest) (ts a cls d)) :
    PS X (.Try body [.ExceptHandler (some (.Name x p1)) (some n) (st :: rest) p2] [] [] p3) (fun D σ H => tb (wHold X.K c i ts Wout D) D σ H) := by
  refine ⟨fun pins s σ H D I h => wpAny_Try_except ?_⟩
  have ok := I.ok
  have frm : X.A.frames = some (X.env :: X.outer) := by rw [ok.frames, stk]
  let cat : Value → Shared → Prop := fun e z => wpAny (model X.prog X.w) X.A (noteFrame e X.env) (fun _ z2 => wpAny (model X.prog X.w) X.A (setFlight e none) (fun _ z3 => wpAny (model X.prog X.w) X.A (handleBy e X.env [.ExceptHandler (some (.Name x p1)) (some n) (st :: rest) p2]) (SP X pins D) X.xe z3) X.xe z2) X.xe z
  have caught : Takes (X.tr (X.pn ++ pins) cat) (wHold X.K c i ts Wout D) := fun u s' z => by
    obtain ⟨a, B, sI, qs, σ1, H1, cls, d, rfl, JI, nb, up, sky, na, os, ag, b, eb, hno, hyes⟩ := z
    have J : Inv X pins σ1 H1 sI := JI.ofTry ok
    have sky1 : Sky B (X.env :: X.outer) a (Zc cls d) X.env.locals s'.heap := by rw [← stk]; exact sky
    show wpAny (model X.prog X.w) X.A (noteFrame (.ref a) X.env) _ _ _
    refine Sky.land Zc.steady frm own sky1 fun h3 fl up3 => ?_
    have aB : B.get? a = none := fl.2.1
    have J3 : Inv X pins σ1 H1 { s' with heap := h3 } := J.landed nb fl.1 (up.trans up3) os ag
    obtain ⟨o3, v3, g3, z3, d3⟩ := fl.there
    have off : a ∉ frs (X.env :: X.outer) := fun hm => by
      obtain ⟨_, o', e', q⟩ := fl.2.2.1.mem hm
      rw [g3] at e'; cases e'
      exact q _ d3
    have offL : a ≠ X.env.locals := fun q => off (List.mem_filterMap.mpr ⟨X.env, .head _, own.trans (congrArg some q.symm)⟩)
    have offF : a ∉ X.fs := fun hm => by
      obtain ⟨e, he, q⟩ := List.mem_filterMap.mp hm
      exact off (List.mem_filterMap.mpr ⟨e, .tail _ he, q⟩)
    have newI : sI.heap.get? a = none := by
      cases q : sI.heap.get? a with
      | none => rfl
      | some o => rw [nb a o q (by rw [stk]; exact off)] at aB; cases aB
    have new0 : X.s_0.heap.get? a = none := by
      cases q : X.s_0.heap.get? a with
      | none => rfl
      | some o =>
        obtain ⟨o', q'⟩ := J.base.there a o q (by rw [hex]; exact List.not_mem_nil)
        rw [newI] at q'; cases q'
    have offP : ∀ q, q ∈ X.pn ++ pins → q.1 ≠ a := fun q hq e => by
      have := (J.pin q hq).1
      rw [e, newI] at this; cases this
    have S3 := J3.suite g3 d3 na offL offF
    refine wpAny_handleBy_cons (codeAny_handlers_test ?_) (by intro q; cases q)
    have named : ∀ {Q E : Value → Shared → Prop}, Q c { s' with heap := h3 } → wpAny (model X.prog X.w) (X.A.mark (some (.ref a))) (eval (.Name x p1) X.env) Q E { s' with heap := h3 } := fun {Q E} q => by
      obtain ⟨g, dbg, m | ⟨m, v, nn⟩⟩ := nm
      · exact ld_glob (X := X.suite a ((a, o3) :: (X.pn ++ pins))) S3 g m q dbg
      · exact ld_blt (X := X.suite a ((a, o3) :: (X.pn ++ pins))) S3 g m v q nn dbg
    have looks : PySem.W.Looks (model X.prog X.w) h3 (typeOf (.ref a)) cls := fun A Q E s k q => wpAny_typeOf_ref (k _ _ g3) (by rw [z3.1]; exact q)
    refine named ((PySem.W.exm_one (M := model X.prog X.w) J3.kIn looks eb).here ?_)
    cases b with
    | false =>
      show wpAny _ X.A (handleBy (.ref a) X.env []) _ _ _
      refine wpAny_handleBy_nil ?_
      obtain ⟨_, _, _, oe, vs, T, _, _, he, _, hd, q1, _⟩ := id fl
      unfold PySem.passOn
      refine wpAny_bind (wpAny_field he hd q1 ?_)
      rw [if_neg (show ¬ ((Value.ref T == Value.none) = true) by simp)]
      have out : wpAny (model X.prog X.w) X.A (setFlight (.ref a) X.env.frame) (fun _ z => wpAny (model X.prog X.w) X.A (throw (.ref a) : Sem Flow) (SP X pins D) X.xe z) X.xe { s' with heap := h3 } := by
        rw [own]
        exact HandSPX.setFlight_upZ fl fun h4 held up4 => wpAny_throw (tk _ _ ⟨a, B, sI, pins, σ1, H1, cls, d, rfl, J, nb, (up.trans up3).trans up4, .inr (.inr (by rw [stk]; exact held)), na, os, ag, hno rfl⟩)
      first
        | exact wpAny_bind (wpAny_pure (wpAny_bind out))
        | exact wpAny_bind out
    | true =>
      refine codeAny_handlers_suite_as (HandSPX.lands_againZ fl fun h4 fl4 up4 => ?_)
      have J4 : Inv X pins σ1 H1 { s' with heap := h4 } := J.landed nb fl4.1 ((up.trans up3).trans up4) os ag
      obtain ⟨o4, v4, g4, z4, d4⟩ := fl4.there
      refine store_ok (X := X.suite a ((a, o4) :: (X.pn ++ pins))) (v := .ref a) (J4.suite g4 d4 na offL offF) nd at_i (.inl loc) rfl (fun s5 S5 => ?_) (.inr loc)
      refine wpAny_mono ((hsu a o4 cls d (X.pn ++ pins) z4 ⟨_, d4⟩).run [] s5 _ H1 _ S5 (hyes rfl a na)) (fun f s6 sp => ?_) (fun _ _ z => z.elim)
      have close : ∀ {σ6 : L2.St} {H6 : Hp} {R : Shared → Prop}, Inv (X.suite a ((a, o4) :: (X.pn ++ pins))) [] σ6 H6 s6 → (∀ s7, Inv X pins (σ6.set i none) (upd H6 a (exH cls d a)) s7 → R s7) →
          wpAny (model X.prog X.w) X.A (do bindName X.env n .none; unbindBehindTheSuite X.env n p2) (fun _ s7 => R s7) X.xe s6 := fun {σ6 H6 R} S6 k => by
        obtain ⟨e6, n6, _⟩ := S6.pin (a, o4) (List.mem_append_left _ (.head _))
        refine gone_ok (inv_track (S6.unsuite ok) e6 (fun v z => ?_) n6 new0 offL offP (exH_ok e6 z4 d4)) nd at_i loc k
        rw [d4] at z; cases z
      cases f with
      | next => obtain ⟨σ6, H6, S6, q⟩ := sp; exact close S6 fun s7 J7 => ⟨_, _, J7, q⟩
      | brk => obtain ⟨σ6, H6, S6, q⟩ := sp; exact close S6 fun s7 J7 => ⟨_, _, J7, q⟩
      | cont => obtain ⟨σ6, H6, S6, q⟩ := sp; exact close S6 fun s7 J7 => ⟨_, _, J7, q⟩
      | ret u => obtain ⟨v, σ6, H6, S6, r, q⟩ := sp; exact close S6 fun s7 J7 => ⟨_, _, _, J7, r, q⟩
  refine wpAny_mono ((hb (wHold X.K c i ts Wout D) (X.pn ++ pins) cat caught PassesOwn.looking).run [] s σ H D (I.toTry _) h) (fun f s1 sp => ?_) (fun e s1 z => z)
  cases f with
  | next => obtain ⟨σ1, H1, J, q⟩ := sp; exact wpAny_execs_nil ⟨σ1, H1, J.ofTry ok, q⟩
  | brk => obtain ⟨σ1, H1, J, q⟩ := sp; exact ⟨σ1, H1, J.ofTry ok, q⟩
  | cont => obtain ⟨σ1, H1, J, q⟩ := sp; exact ⟨σ1, H1, J.ofTry ok, q⟩
  | ret u => obtain ⟨v, σ1, H1, J, r, q⟩ := sp; exact ⟨v, σ1, H1, J.ofTry ok, r, q⟩
end
end Sy

set_option Elab.async false
set_option linter.all false
set_option maxRecDepth 100000
/-! S15: what a kept exception is, and its value. -/
namespace Sy
open PySem PySem.Spec PyProof.Rows L2
/-- what is asked of the table of an exception class -/
structure ExT (K : PySem.W.Frag) (C : Addr) : Prop where
  fld : XfC K C
  val : PySem.W.findIn K (.ref C) "value" = some none
  cl : (PySem.W.clsIn K C).isSome = true
  at_ : PySem.W.findIn K (.ref C) "__class__" = some (some (.builtin "object.__class__"))
  ds : PySem.W.specialIn K (.builtin "object.__class__") "__get__" = some (some (.builtin "getset_descriptor.__get__"))
  tk : PySem.W.takesIn K (.builtin "object.__class__") = some true
  mr : PySem.W.mroIn K C (.type "object") = some true
section
variable {X : Cx} {pins : List (Addr × Obj)} {σ : L2.St} {H : Hp} {s : Shared}
theorem exn_inst {a d C : Addr} {fs : List (Str × V)} (I : Inv X pins σ H s) (ha : H a = some (exH (.ref C) (some d) a)) (hd : H d = some (.xd fs)) :
    ∃ oe od, PySem.W.InstAt s.heap a oe C (some od) ∧ ∀ n v, fs.lookup n = some v → ∃ u, PySem.W.lookIn n od = some (some u) ∧ RelV v u := by
  obtain ⟨⟨oe, vs, e, z, q⟩, _⟩ := (show ObjOk X.prog X.w H s.heap a (exH (.ref C) (some d) a) from I.hok a _ ha)
  obtain ⟨mA, names, rel⟩ := (show ObjOk X.prog X.w H s.heap d (.xd fs) from I.hok d _ hd)
  obtain ⟨od, at_d, looks⟩ := lookIn_ns names
  refine ⟨oe, od, ⟨e, z.1, by unfold PySem.W.notCls; rw [q] <;> rfl, by rw [z.2]; exact at_d⟩, fun n v l => ?_⟩
  obtain ⟨u, eu, ru⟩ := RelO.some_of (o := mA n) (l ▸ rel n)
  exact ⟨u, by rw [looks, eu], ru⟩
/-- e.value of a kept exception -/
theorem pe_kept {e : Expr} {te : TE} {pos : Pos} {n : Str} (he : PE X e te) (hb : attributeBase e n X.env (eval e X.env) = eval e X.env := by rfl) :
    PE X (.Attribute e n pos) (fun σ H Q => te σ H fun x H1 => ∃ a d C fs v, x = .ref a ∧ H1 a = some (exH (.ref C) (some d) a) ∧ H1 d = some (.xd fs) ∧ XfC X.K C ∧ PySem.W.findIn X.K (.ref C) n = some none ∧ fs.lookup n = some v ∧ Q v H1) := by
  refine ⟨fun pins s σ H Q I h => attr_of hb (thn (he.run pins s σ H _ I h) fun u s1 z => ?_)⟩
  obtain ⟨x, H1, I1, rx, a, d, C, fs, v, rfl, ha, hd, T, hno, l, q⟩ := z
  obtain rfl : u = Value.ref a := rx
  obtain ⟨oe, od, J, k⟩ := exn_inst I1 ha hd
  obtain ⟨w, hw, rw'⟩ := k n v l
  exact HandSPX.exc_get I1.kIn J T.ga T.gg T.exC (PySem.W.findObj_own T.hdC hno rfl hw) (handed_of rw') ⟨v, H1, I1.tok _, rw', q⟩
/-- isinstance of a kept exception -/
theorem call_isiE : CallR X (.builtin "isinstance") (fun xs H Q => ∃ a d C fs c t b, xs = [.ref a, c] ∧ H a = some (exH (.ref C) (some d) a) ∧ H d = some (.xd fs) ∧ ExT X.K C ∧ ClsV c t ∧ PySem.W.kitOne X.K (.ref C) t = some b ∧ Q (.bl b) H) := by
  intro pins s σ H xs us Q I r h
  obtain ⟨a, d, C, fs, c, t, b, rfl, ha, hd, T, k, e, q⟩ := h
  obtain ⟨u1, u2, rfl, r1, r2⟩ := vals2 r
  have e2 := k.eq r2
  subst e2
  cases (show u1 = Value.ref a from r1)
  obtain ⟨oe, od, J, _⟩ := exn_inst I ha hd
  exact PySem.W.kia_one (PySem.W.kitx_exc T.cl T.fld.ga T.fld.gg T.fld.exC T.at_ T.ds T.tk T.mr) I.kIn J e (by simp) fun tk => ⟨.bl b, H, I.tok tk, rfl, q⟩
end
end Sy

set_option Elab.async false
set_option linter.all false
set_option maxRecDepth 100000
/-! S16: kept exceptions in symbolic form. -/
namespace Sy
open PySem PySem.Spec PyProof.Rows L2
theorem EnvR.len {K : PySem.W.Frag} {H : Hp} : ∀ {es : List (Option S)} {os : List (Option V)}, EnvR K H es os → es.length = os.length
  | _, _, .nil => rfl
  | _, _, .nah t => congrArg (· + 1) (EnvR.len t)
  | _, _, .yea _ t => congrArg (· + 1) (EnvR.len t)
section
variable {X : Cx} {G : Hp} {env : Ev} {M : Mem} {D : SD} {Q : QS} {e : Expr} {pos : Pos}
/-- e.value -/
theorem se_value (h : SE X G e env M fun s M1 => ∃ C s', s = .exn (.ref C) s' ∧ ExT X.K C ∧ Q s' M1) (hb : attributeBase e "value" X.env (eval e X.env) = eval e X.env := by rfl) : SE X G (.Attribute e "value" pos) env M Q := fun σ H R =>
  ⟨_, pe_kept pe_S hb, tS_go R h fun s M1 v H1 k1 rv R1 ⟨C, s', es, T, q⟩ => by
    subst es
    cases rv with
    | @exn a d _ _ v h1 h2 h3 => exact ⟨a, d, C, _, v, rfl, h1, h2, T.fld, T.val, rfl, s', M1, k1, h3, R1.mem, q⟩⟩
/-- isinstance(e, a class of the program) -/
theorem rb_isE {C c : Addr} {s : S} {b : Bool} (T : ExT X.K C) (k : PySem.W.kitOne X.K (.ref C) (.ref c) = some b) (hc : ClsV (.ref c) (.ref c)) (q : Q (.bl b) M) : RB X (.builtin "isinstance") [.exn (.ref C) s, .ptr c] M Q := fun vs H m r => by
  obtain ⟨v, w, rfl, r1, r2⟩ := rvs2 r
  cases r2
  cases r1 with
  | @exn a d _ _ v h1 h2 h3 => exact ⟨_, call_isiE, a, d, C, _, .ref c, .ref c, b, rfl, h1, h2, T, hc, k, pack (.bl b) m q⟩
/-- try: body / except x as n: m = n -/
theorem ss_keep {x n m : Str} {cX : Value} {i j : Nat} {body : List Stmt} {p1 p2 p3 p4 p5 p6 : Pos} (stk : X.stack = X.env :: X.outer) (own : X.env.frame = some X.env.locals) (nd : X.N.Nodup) (hex : X.ex = []) (hi : X.N[i]? = some n) (hj : X.N[j]? = some m)
    (ln : X.env.scope.names.lookup n = some .local) (lm : X.env.scope.names.lookup m = some .local) (kn : X.env.kindOf n = some .local) (nm : Names X x cX) (hij : i ≠ j) (hv : Vis X.env.scope n) (hd : (n == ("__debug__" : Str)) = false) (hcd : (n == ("__classdict__" : Str)) = false)
    (hs : swapsWith (.Name n p5) (some (.Name m p4)) p6.line X.env = pure false)
    (h : ∀ G1, Keep X.K G G1 → ∀ (pn : List (Addr × Obj)) (xe : Value → Shared → Prop), PassesOwn (model X.prog X.w) X.A X.env xe → Wish (X.tr pn xe) G1 (fun env' c s M' => i < env'.length ∧ PySem.W.exmOne X.K (.ref c) cX = some true ∧ D.nx ((env'.set j (some (.exn (.ref c) s))).set i none) M') → SSs (X.tr pn xe) G1 body env M D) :
    SS X G (.Try body [.ExceptHandler (some (.Name x p1)) (some n) [.Assign [.Name m p4] (.Name n p5) p6] p2] [] [] p3) env M D := fun G1 kG σ H R => by
  refine ⟨_, ps_try_hold (Wout := fun _ _ _ _ => False) (ts := fun _ _ _ => tAsg (tVar i) (gName j)) (tb := fun W D' σ' H' => ∃ env' M' D2, Rel X.K G1 env' M' σ' H' ∧ (∀ (pn : List (Addr × Obj)) (xe : Value → Shared → Prop), PassesOwn (model X.prog X.w) X.A X.env xe → Takes (X.tr pn xe) W → SSs (X.tr pn xe) G1 body env' M' D2) ∧ DLe (Dr X G1 D2) D')
    stk own nd hi kn nm (fun u s' z => by obtain ⟨_, _, _, _, _, _, _, _, _, _, _, _, _, _, _, _, w⟩ := z; exact w.elim) hex (fun W pn xe tk pw => ⟨fun pins s σ H D' I z => ?_⟩) (fun a oe cls d pn _ _ => pss_one (ps_set (i := j) nd hj (.inl lm) (pe_var (i := i) hi hv hd hcd) hs (.inr lm))), ?_⟩
  · obtain ⟨env', M', D2, r, hb, le⟩ := z
    obtain ⟨t, p, ht⟩ := hb pn xe pw tk G1 Keep.refl σ H r
    exact thn (p.run pins s σ H _ I ht) fun u s1 q => sp_le le q
  · refine ⟨env, M, D, R, fun pn xe pw tk => h G1 kG pn xe pw ⟨_, tk, ?_⟩, DLe.refl⟩
    rintro env' M' σ' H' c s d v R' ⟨li, eb, q⟩ hd' rv
    refine ⟨true, eb, (fun z => nomatch z), fun _ a ha => ?_⟩
    have hiσ : i < σ'.length := by rw [← R'.env.len]; exact li
    refine ⟨.ref a, by rw [List.getElem?_set_self hiσ], ?_⟩
    have k2 : Keep X.K H' (upd H' a (exH (.ref c) (some d) a)) := keep_new ha
    have r2 : RV X.K (upd H' a (exH (.ref c) (some d) a)) (.exn (.ref c) s) (.ref a) := .exn upd_same ((upd_ne (ne_of_none hd' ha)).trans hd') (rv.up k2)
    refine ⟨(env'.set j (some (.exn (.ref c) s))).set i none, M', ⟨R'.base.trans k2, ?_, fun p o e => (R'.mem p o e).up k2 (upd_ne fun z => (R'.mem p o e).there (by rw [z]; exact ha))⟩, q⟩
    have e1 := ((R'.env.up k2).forget (o := some (.ref a)) i).set r2 j
    have e2 := e1.forget (o := none) i
    have e3 : ((env'.set i none).set j (some (S.exn (.ref c) s))).set i none = (env'.set j (some (S.exn (.ref c) s))).set i none := by
      rw [List.set_comm _ _ hij, List.set_set]
    rw [e3] at e2
    exact e2
end
/-- a def's body in a tried context -/
theorem DX.tr {X : Cx} {N : List Str} {sc : Scope} {k : Nat} {pn : List (Addr × Obj)} {xe : Value → Shared → Prop} (d : DX X N sc k) (pw : PassesOwn (model X.prog X.w) X.A X.env xe) : DX (X.tr pn xe) N sc k := ⟨d.hN, d.sc, d.calm, d.nd, d.room, d.gd, pw, d.fn⟩
end Sy

set_option Elab.async false
set_option linter.all false
set_option maxRecDepth 100000
set_option maxHeartbeats 2000000
namespace PySem
namespace ShX
open PySem.W PySem.Calls PyProof.Rows PySem.HandSPX
/-! ### the text of __init__ -/
def iA (p1 p2 : Pos) : Arguments := { posonlyargs := [], args := [{ arg := "self", annotation := none, pos := p1 }, { arg := "value", annotation := none, pos := p2 }], vararg := none, kwonlyargs := [], kw_defaults := [], kwarg := none, defaults := [] }
def iB (q1 q2 q3 q4 : Pos) : List Stmt := [.Assign [.Attribute (.Name "self" q1) "value" q2] (.Name "value" q3) q4]
def iS : Scope := { kind := .function, names := [(PySem.Str.ofString "self", .local), (PySem.Str.ofString "value", .local)], isGenerator := false, isCoroutine := false, more := [] }
/-- what the written part says of Low, at C, and of its __init__, at fI -/
structure ShTxt (K : Frag) (mg : Str → Option Value) (cn : Str) (C fI : Addr) : Prop where
  gC : mg cn = some (.ref C)
  cls : ∃ nm q N bs bm sn sub ab col dd k0 k1 k2 k3 k5, K.lookup C = some (excClassObj nm q C N bs bm true sn sub ab col dd k0 k1 k2 k3 k5 "ValueError.__new__") ∧ refsVE bm = true
  sa : findIn K (.ref C) "__setattr__" = some (some (.builtin "object.__setattr__"))
  ga : findIn K (.ref C) "__getattribute__" = some (some (.builtin "BaseException.__getattribute__"))
  gg : findIn K (.ref C) "__getattr__" = some none
  noN : findIn K (.ref C) "value" = some none
  iC : findIn K (.ref C) "__init__" = some (some (.ref fI))
  tC : typeIn K (.ref fI) = some (.type "function")
  kC : keepIn K (.ref C) = true
  exC : subIn K (.ref C) (.type "BaseException") = some true
  tyC : typeIn K (.ref C) = some (.type "type")
  hdC : hasDictIn K C = true
  te : exmOne K (.ref C) (.ref C) = some true
  fn : ∃ (oc : Value) (od : Option Addr) (doc pm : Value) (an : Option Addr) (cdv ct : Value) (osl : Array (Option Value)) (p1 p2 q1 q2 q3 q4 : Pos),
    K.lookup fI = some ⟨oc, od, .func (fnOf "__init__" "SheetError.__init__" (iA p1 p2) (iB q1 q2 q3 q4) iS .none .none doc pm an cdv ct), osl⟩ ∧ codeIn K cdv "SheetError.__init__" = true
theorem one_size (v : Value) : [v].length ≤ sizeLine := by
  rw [sizeLine_eq]
  exact (by decide : 1 ≤ 16777216)
theorem kept_but {K : Frag} {h h' : Heap} {x : Addr} (X : K.In h) (hx : K.lookup x = none) (k : ∀ b o, b ≠ x → h.get? b = some o → h'.get? b = some o) : K.In h' := fun a o e =>
  k a o (fun z => by rw [z, hx] at e; cases e) (X a o e)
theorem ldC {M : Model} {s : Shared} {name : Str} {scope : Scope} {L a : Addr} {cd : Value} {m : Str → Option Value} {x : Str} {pos : Pos} {v : Value} {Q : Value → Shared → Prop} {A : Around} {E : Value → Shared → Prop} (hn : s.heap.Ns L m) (hv : m x = some v) (h : Q v s)
    (hk : scope.kind = .function := by rfl) (hl : (envOfC name scope L a cd).kindOf x = some .local := by rfl) (hd : (x == ("__debug__" : Str)) = false := by decide) :
    wpAny M A (eval (.Name x pos) (envOfC name scope L a cd)) Q E s := wpAny_Name (wpAny_loadName_local hk hl hn hv h) hd
/-- what __init__ leaves of a fresh exception at x -/
structure InitEnd (h h' : Heap) (x C dx t1 : Addr) (v : Value) : Prop where
  keep : ∀ b o, b ≠ x → h.get? b = some o → h'.get? b = some o
  obj : h'.get? x = some { cls := .ref C, dict := some dx, data := .fields #[.ref t1, .none, .none, .none, .bool false, .none] }
  dbig : h.objs.size ≤ dx
  dne : dx ≠ x
  ns : h'.Ns1 dx (fun y => if y = "value" then some v else none)
/-- a made Low -/
structure OwnMade (h h' : Heap) (e C d : Addr) (v : Value) : Prop where
  keep : ∀ b o, h.get? b = some o → h'.get? b = some o
  new : h.objs.size ≤ e
  obj : ∃ oe vs, h'.get? e = some oe ∧ oe.cls = .ref C ∧ oe.dict = some d ∧ oe.data = .fields vs ∧ vs[1]? = some .none
  dbig : h.objs.size ≤ d
  dne : d ≠ e
  ns : h'.Ns1 d (fun y => if y = "value" then some v else none)
section
variable {prog : Program} {w : World} {A : Around} {E : Value → Shared → Prop} {R : Result → Shared → Prop} {s : Shared} {K : Frag} {mg : Str → Option Value} {cn : Str} {C fI : Addr}
theorem sh_init (T : ShTxt K mg cn C fI) {x t0 : Addr} {v : Value} (X : K.In s.heap) (hlim : s.heap.NoLimit) (hx : s.heap.get? x = some (excO C t0)) (hnx : K.lookup x = none) (hroom : A.depth < recursionLimit)
    (hq : ∀ h' tk dx, InitEnd s.heap h' x C dx t0 v → R (.ok (.ret .none)) { s with heap := h', toks := tk }) :
    codeAny (model prog w) A (.call (.ref fI) ⟨[.ref x, v], []⟩) R s := by
  obtain ⟨oc, od, doc, pm, an, cdv, ct, osl, p1, p2, q1, q2, q3, q4, ho, hcd⟩ := T.fn
  obtain ⟨nm, q, N, bs, bm, sn, sub, ab, col, dd, k0, k1, k2, k3, k5, hC, hbm⟩ := T.cls
  have hcl : clsIn K C = some { name := nm, bases := bs, mro := .ref C :: bm, ns := N, qualname := q, hasDict := true, slotNames := sn, subclasses := sub, abstract := ab, collection := col, hasDel := false } := by unfold clsIn; rw [hC] <;> rfl
  refine Att.call_fn (binds := [("self", .ref x), ("value", v)]) X hlim ho hcd hroom (BindsTo.of_eq (by first | rfl | with_unfolding_all rfl)) (by first | rfl | decide | with_unfolding_all rfl) (fun s₁ IC => ?_) rfl rfl rfl
  obtain ⟨h₁, tk₁, rfl⟩ := IC.toInCall.same
  have k : ∀ b o, s.heap.get? b = some o → h₁.get? b = some o := IC.toInCall.keep
  have hn := IC.toInCall.ns
  have hxL : s.heap.objs.size ≠ x := Nat.ne_of_gt (Heap.lt_size hx)
  have X₁ : K.In h₁ := X.keeps k
  have hx₁ := k _ _ hx
  -- self.by = by
  show wpAny _ _ (execs _ _) _ _ _
  refine wpAny_execs_cons (plainObj_wpAny_Assign_Attribute ?_)
  refine ldC (v := v) hn (by first | rfl | with_unfolding_all rfl | kernel_rfl) (ldC (v := .ref x) hn (by first | rfl | with_unfolding_all rfl | kernel_rfl) ?_)
  refine set_plain X₁ (ox := excO C t0) (od := none) ⟨hx₁, rfl, rfl, trivial⟩ T.sa ?_
  refine exc_osa X₁ hx₁ hcl (show refsVE (.ref C :: bm) = true from hbm) rfl T.noN (fun h₃ tk₃ dx k₃ dn dne hx₃ hn₃ => ?_)
  show wpAny _ _ (execs _ _) _ _ _
  have z : s.heap.objs.size < h₁.objs.size := hn.lt
  exact wpAny_execs_nil (hq h₃ tk₃ dx ⟨fun b o hb e => k₃ b o hb (k b o e), hx₃, Nat.le_of_lt (Nat.lt_of_lt_of_le z dn), dne, hn₃⟩)
theorem sh_made (T : ShTxt K mg cn C fI) {v : Value} (X : K.In s.heap) (hlim : s.heap.NoLimit) (hroom : A.depth + 1 < recursionLimit)
    (hq : ∀ h' tk e d, OwnMade s.heap h' e C d v → R (.ok (.ret (.ref e))) { s with heap := h', toks := tk }) :
    codeAny (model prog w) A (.call (.ref C) ⟨[v], []⟩) R s := by
  obtain ⟨nm, q, N, bs, bm, sn, sub, ab, col, dd, k0, k1, k2, k3, k5, hC, hbm⟩ := T.cls
  obtain ⟨hp, g, dr, tk, os⟩ := s
  have k : ∀ b o, hp.get? b = some o → ((hp.push (kdv_tup [v])).push (excO C hp.objs.size)).get? b = some o := fun b o e => Heap.get?_push_of_some _ (Heap.get?_push_of_some _ e)
  have hget : ((hp.push (kdv_tup [v])).push (excO C hp.objs.size)).get? (hp.objs.size + 1) = some (excO C hp.objs.size) := by heap_get
  have hnx : K.lookup (hp.objs.size + 1) = none := by
    cases e : K.lookup (hp.objs.size + 1) with
    | none => rfl
    | some o =>
      have z : hp.get? (hp.objs.size + 1) = some o := X _ _ e
      exact absurd (Nat.lt_of_succ_lt (Heap.lt_size z)) (Nat.lt_irrefl _)
  refine call_own F.excBase_ValueError (fun X => refsVE_contains X bm hbm) (X _ _ hC) (looks_findIn X T.iC) (fun self => bind_fn X self T.tC) (one_size v) ?_
  refine sh_init (s := ⟨(hp.push (kdv_tup [v])).push (excO C hp.objs.size), g, dr, tk, os⟩) T (X.keeps k) (hlim.keeps k) hget hnx ?_ fun h' tk' dx ⟨k', hx, dn, dne, hns⟩ => ?_
  · show A.depth + 1 < recursionLimit
    exact hroom
  · have old : ∀ b o, hp.get? b = some o → h'.get? b = some o := fun b o e => k' b o (Nat.ne_of_lt (Nat.lt_succ_of_lt (Heap.lt_size e))) (k b o e)
    have z : hp.objs.size + 1 + 1 ≤ dx := by
      first
        | (simpa only [Heap.size_push] using dn)
        | exact dn
        | (have q := dn; rw [Heap.size_push, Heap.size_push] at q; exact q)
    exact ⟨rfl, hq h' tk' (hp.objs.size + 1) dx ⟨old, Nat.le_succ _, ⟨_, _, hx, rfl, rfl, rfl, rfl⟩, Nat.le_trans (Nat.le_trans (Nat.le_succ _) (Nat.le_succ _)) z, dne, hns⟩⟩
end
end ShX
end PySem
namespace L2
open PySem PySem.Spec PyProof.Rows
theorem relO_val {v : V} {v' : Value} (r : RelV v v') (f : Str) : RelO (List.lookup f [(("value" : Str), v)]) (if f = "value" then some v' else none) := by
  by_cases hw : f = "value"
  · subst hw
    rw [if_pos rfl]
    have q : List.lookup ("value" : Str) [(("value" : Str), v)] = some v := by simp [List.lookup]
    rw [q]
    exact r
  · rw [if_neg hw]
    have qw : (f == ("value" : Str)) = false := by simpa using hw
    have q2 : List.lookup f [(("value" : Str), v)] = none := by simp [List.lookup, qw]
    rw [q2]
    trivial
section
variable {X : Cx} {cn : Str} {C fI : Addr}
/-- Low(e) -/
def tMkSh (C : Addr) (ta : TA) : L2.St → Hp → XK → Prop := fun σ H Q => ta σ H fun vs H1 => ∃ v, vs = [v] ∧ ∀ d, H1 d = none → Q (.ref C) (some d) (upd H1 d (.xd [(("value" : Str), v)]))
theorem pmk_sh {a : Expr} {ta : TA} {p pos : Pos} {k : Nat} (T : PySem.ShX.ShTxt X.K X.mg cn C fI) (hr : Room k X.A) (ha : PA X [a] ta) (hg : Gl X cn) (hdb : (cn == ("__debug__" : Str)) = false)
    (he : starEach (a :: []) X.env = (false, eval a X.env) :: starEach [] X.env := by rfl) (hpl : (backTo pos (starEach [] X.env)).any (·.1) = false := by rfl) :
    PMk X (.Call (.Name cn p) [a] [] pos) (tMkSh C ta) := by
  intro pins s σ H Q I h
  refine wpAny_Call_Name_kw (ld_glob I hg T.gC ?_ hdb)
  refine PySem.W.callWith_K (h₀ := X.base) I.ok.mod.kin T.kC (thn (ha.run pos pins s σ H _ I h) fun us s1 hh => ?_) he hpl
  obtain ⟨vs, H1, I1, r1, v, ev, q1⟩ := hh
  subst ev
  refine ⟨I1.kIn, ?_⟩
  cases r1 with
  | cons rv rn =>
    rename_i v' us'
    cases rn
    show wpAny _ _ (call (.ref C) [v']) _ _ _
    have hlim := I1.nolimit
    obtain ⟨hp, g, dr, tk, os⟩ := s1
    refine wpAny_call (PySem.ShX.sh_made T I1.kIn hlim (by have := hr.dp; omega) fun h' tk' e d M => ?_)
    show MkP X pins σ Q (.ref e) ⟨h', g, dr, tk', os⟩
    obtain ⟨oe, fv, hoe, hc, hd, hdat, h1⟩ := M.obj
    have hns := M.ns
    obtain ⟨G', g1, g2⟩ := restrict h' fun b => decide (b ≠ e)
    have gk : ∀ b, b ≠ e → G'.get? b = h'.get? b := fun b hb => g1 b (decide_eq_true hb)
    have ge : G'.get? e = none := g2 e (by simp)
    have old : ∀ b o, hp.get? b = some o → G'.get? b = some o := fun b o q => (gk b (Nat.ne_of_lt (Nat.lt_of_lt_of_le (Heap.lt_size q) M.new))).trans (M.keep b o q)
    have ob : ObjOk X.prog X.w (upd H1 d (.xd [(("value" : Str), v)])) G' d (.xd [(("value" : Str), v)]) :=
      ⟨_, hns.at (fun o q => (gk d M.dne).trans q), fun f => relO_val rv f⟩
    have J : Inv X pins σ (upd H1 d (.xd [(("value" : Str), v)])) ⟨G', g, dr, tk', os⟩ := I1.laid (t' := tk') old M.dbig ob
    refine ⟨e, oe, fv, ⟨G', g, dr, tk', os⟩, _, .ref C, some d, rfl, J, fun b o q => ?_, ge, hoe, ⟨hc, hd⟩, hdat, h1, ?_, rfl, I1.bare, raises_own T.exC T.tyC, q1 d (I1.hok.fresh M.dbig)⟩
    · by_cases hb : b = e
      · have q' : G'.get? b = some o := q
        rw [hb, ge] at q'; cases q'
      · exact (gk b hb).symm.trans q
    · rw [upd_ne (Ne.symm M.dne)]
      exact I1.hok.fresh M.new
/-- raise Low(e) -/
def tRaiseSh (C : Addr) (W : WX) (ta : TA) : TS := fun _ σ H => tMkSh C ta σ H fun cls d H' => W cls d σ H'
theorem ps_raiseSh {a : Expr} {ta : TA} {W : WX} {p pos pos2 : Pos} {k : Nat} (hc : X.calm = true) (T : PySem.ShX.ShTxt X.K X.mg cn C fI) (hr : Room k X.A) (tk : Takes X W) (ha : PA X [a] ta) (hg : Gl X cn) (hdb : (cn == ("__debug__" : Str)) = false)
    (he : starEach (a :: []) X.env = (false, eval a X.env) :: starEach [] X.env := by rfl) (hpl : (backTo pos (starEach [] X.env)).any (·.1) = false := by rfl) :
    PS X (.Raise (some (.Call (.Name cn p) [a] [] pos)) none pos2) (tRaiseSh C W ta) := ps_raise hc tk (pmk_sh T hr ha hg hdb he hpl)
end
end L2
namespace Sy
open PySem PySem.Spec PyProof.Rows L2
/-- raise x(a) -/
theorem ss_raise {X : Cx} {G : Hp} {env : Ev} {M : Mem} {D : SD} {x : Str} {a : Expr} {C fI : Addr} {k : Nat} {p pos pos2 : Pos} {Z : Ev → Addr → S → Mem → Prop} (T : PySem.ShX.ShTxt X.K X.mg x C fI) (hc : X.calm = true) (hr : Room k X.A) (hz : Wish X G Z) (hg : Gl X x) (hdb : (x == ("__debug__" : Str)) = false)
    (h : SE X G a env M fun s M1 => Z env C s M1) (he : starEach (a :: []) X.env = (false, eval a X.env) :: starEach [] X.env := by rfl) (hpl : (backTo pos (starEach [] X.env)).any (·.1) = false := by rfl) : SS X G (.Raise (some (.Call (.Name x p) [a] [] pos)) none pos2) env M D := fun G1 kG σ H R => by
  obtain ⟨W, tk, hW⟩ := hz
  refine ⟨_, ps_raiseSh hc T hr tk (pa_cons (te := tS X G a) pe_S pa_nil he) hg hdb he hpl, ?_⟩
  refine tS_at kG R h fun s M' v H' k1 rv R' q => ⟨v, rfl, fun d hd => ?_⟩
  have k2 : Keep X.K H' (upd H' d (.xd [(("value" : Str), v)])) := keep_new hd
  exact hW env M' σ _ C s d v ⟨(kG.trans R'.base).trans k2, R'.env.up k2, fun p o e => (R'.mem p o e).up k2 (upd_ne fun z => (R'.mem p o e).there (by rw [z]; exact hd))⟩ q upd_same (rv.up k2)
end Sy

set_option Elab.async false
set_option linter.all false
set_option maxRecDepth 100000
/-! S18: a def whose body may catch: what else is known of its context. -/
namespace Sy
open PySem PySem.Spec PyProof.Rows L2
structure DE (X : Cx) : Prop where
  stk : X.stack = X.env :: X.outer
  own : X.env.frame = some X.env.locals
  ex : X.ex = []
  kf : X.env.scope.kind = .function
section
variable {P : Program} {w : World} {K : PySem.W.Frag} {mg : Str → Option Value} {base : Heap}
theorem def_okE {x qual : Str} {st : Stmt} {f : Addr} {fd : FuncData} {N ps : List Str} {k : Nat} {C : Con} (F : Fun K x qual st f fd) (S1 : FnScope N ps (defScope st)) (len : ∀ ss M Q E, C ss M Q E → ss.length = ps.length)
    (body : ∀ (X : Cx) (G : Hp), X.prog = P → X.w = w → X.K = K → X.mg = mg → X.base = base → DX X N (defScope st) k → DE X → ∀ ss M Q E, C ss M Q E → Wish X G (fun _ c s M => E c s M) → SSs X G (defBody st) (startE N ss) M { nx := fun _ M' => Q .non M', rt := Q }) :
    FnOk P w K mg base (L2.CX P w) (k + 1) f fd ps (SpC K C) := by
  refine fn_by F S1 (fun vs H Q E h => ?_) (fun cdv A outer s H vs Q E hr hg h => ?_)
  · obtain ⟨ss, M, Q', E', r, _, hc, _⟩ := h
    rw [← r.length]
    exact len _ _ _ _ hc
  · obtain ⟨ss, M, Q', E', r, m, hc, hq, he⟩ := h
    have d : DX (cxOf (L2.CX P w) P w K mg base N qual (defScope st) f cdv A outer s H E) N (defScope st) k := ⟨rfl, rfl, rfl, S1.nd, hr, hg, passes_of rfl, fun _ => rfl⟩
    have de : DE (cxOf (L2.CX P w) P w K mg base N qual (defScope st) f cdv A outer s H E) := ⟨rfl, rfl, rfl, S1.kind⟩
    have wi : Wish (cxOf (L2.CX P w) P w K mg base N qual (defScope st) f cdv A outer s H E) H (fun _ c s M => E' c s M) := ⟨_, takes_of rfl rfl rfl rfl, fun env M σ H' c s d v R z hd rv => he c s M d v H' R.base hd rv R.mem z⟩
    have en : EnvR K H (startE N ss) (L2.start N vs) := by
      unfold L2.start startE
      rw [← r.length]
      exact EnvR.of ss r _
    refine ⟨_, pss_S, _, _, _, _, Keep.refl, ⟨Keep.refl, en, m⟩, fun G1 kG σ1 H1 R1 => body _ H rfl rfl rfl rfl rfl d de ss M Q' E' hc wi G1 kG σ1 H1 R1, ⟨fun σ' H' ⟨v, M', R', q⟩ => hq _ _ _ _ R'.base .non R'.mem q, fun v H' ⟨s, M', k', rv, m', q⟩ => hq _ _ _ _ k' rv m' q, fun _ _ ⟨_, _, _, z⟩ => z.elim, fun _ _ ⟨_, _, _, z⟩ => z.elim⟩⟩
end
end Sy

set_option Elab.async false
set_option linter.all false
set_option maxRecDepth 100000
/-! S19: the tables of the exception classes, from what the top has written. -/
namespace Sy
open PySem PySem.Spec PyProof.Rows L2
theorem exm_of {K : PySem.W.Frag} {C S : Addr} (h1 : PySem.W.subIn K (.ref S) (.type "BaseException") = some true) (h2 : PySem.W.isClsIn K S = true) (h3 : PySem.W.typeIn K (.ref S) = some (.type "type")) (h4 : PySem.W.subIn K (.ref C) (.ref S) = some true) : PySem.W.exmOne K (.ref C) (.ref S) = some true := by
  have a1 : (PySem.W.subIn K (.ref S) (.type "BaseException") == some true) = true := by rw [h1] <;> rfl
  have a2 : ((PySem.W.clsIn K S).isSome && PySem.W.typeIn K (.ref S) == some (.type "type")) = true := by
    have z : (PySem.W.clsIn K S).isSome = true := h2
    rw [z, h3] <;> rfl
  unfold PySem.W.exmOne
  rw [if_pos a1]
  unfold PySem.W.kitCls
  dsimp only
  rw [if_pos a2]
  exact h4
/-- the text of SheetError.__init__, as each law's text has it -/
abbrev shFn (doc pm : Value) (an : Option Addr) (cdv ct : Value) : FuncData := PySem.W.fnOf "__init__" "SheetError.__init__" (PySem.ShX.iA ⟨4, 17, 4, 21⟩ ⟨4, 23, 4, 28⟩) (PySem.ShX.iB ⟨5, 8, 5, 12⟩ ⟨5, 8, 5, 18⟩ ⟨5, 21, 5, 26⟩ ⟨5, 8, 5, 26⟩) PySem.ShX.iS .none .none doc pm an cdv ct
/-- a class of the program below SheetError, at hand -/
structure ExcTab (K : PySem.W.Frag) (cn : Str) (C S : Addr) : Prop where
  nm : PySem.W.nsIn K mainGlobals cn = some (some (.ref C))
  txt : ∀ mg : Str → Option Value, mg cn = some (.ref C) → ∃ fI, PySem.ShX.ShTxt K mg cn C fI
  tab : ExT K C
  exm : PySem.W.exmOne K (.ref C) (.ref S) = some true
theorem exc_mk {K : PySem.W.Frag} {cn : Str} {C S fI : Addr} {nm q : Str} {N : Addr} {bs bm : List Value} {sn : List Str} {sub : List Value} {ab : Bool} {col : Option Bool} {dd : Option Addr} {m0 m1 m2 m3 m5 : Option Value} {od an : Option Addr} {sl : Array (Option Value)} {oc dc pm cd ct : Value}
    (aC : PySem.W.nsIn K mainGlobals cn = some (some (.ref C))) (xL : K.lookup C = some (PySem.excClassObj nm q C N bs bm true sn sub ab col dd m0 m1 m2 m3 m5 "ValueError.__new__")) (rf : PySem.HandSPX.refsVE bm = true)
    (sa : PySem.W.findIn K (.ref C) "__setattr__" = some (some (.builtin "object.__setattr__"))) (ga : PySem.W.findIn K (.ref C) "__getattribute__" = some (some (.builtin "BaseException.__getattribute__"))) (gg : PySem.W.findIn K (.ref C) "__getattr__" = some none) (nb : PySem.W.findIn K (.ref C) "value" = some none)
    (a1 : PySem.W.findIn K (.ref C) "__init__" = some (some (.ref fI))) (t1 : PySem.W.typeIn K (.ref fI) = some (.type "function")) (l1 : K.lookup fI = some ⟨oc, od, .func (shFn dc pm an cd ct), sl⟩) (c1 : PySem.W.codeIn K cd "SheetError.__init__" = true)
    (kC : PySem.W.keepIn K (.ref C) = true) (eC : PySem.W.subIn K (.ref C) (.type "BaseException") = some true) (tC : PySem.W.typeIn K (.ref C) = some (.type "type")) (hC : PySem.W.hasDictIn K C = true) (iC : PySem.W.isClsIn K C = true) (sC : PySem.W.subIn K (.ref C) (.ref C) = some true)
    (eS : PySem.W.subIn K (.ref S) (.type "BaseException") = some true) (iS : PySem.W.isClsIn K S = true) (tS : PySem.W.typeIn K (.ref S) = some (.type "type")) (sS : PySem.W.subIn K (.ref C) (.ref S) = some true)
    (ac : PySem.W.findIn K (.ref C) "__class__" = some (some (.builtin "object.__class__"))) (ds : PySem.W.specialIn K (.builtin "object.__class__") "__get__" = some (some (.builtin "getset_descriptor.__get__"))) (tk : PySem.W.takesIn K (.builtin "object.__class__") = some true) (mr : PySem.W.mroIn K C (.type "object") = some true) : ExcTab K cn C S where
  nm := aC
  txt := fun mg h => ⟨fI, { gC := h, cls := ⟨nm, q, N, bs, bm, sn, sub, ab, col, dd, m0, m1, m2, m3, m5, xL, rf⟩, sa := sa, ga := ga, gg := gg, noN := nb, iC := a1, tC := t1, kC := kC, exC := eC, tyC := tC, hdC := hC, te := exm_of eC iC tC sC, fn := ⟨_, _, _, _, _, _, _, _, _, _, _, _, _, _, l1, c1⟩ }⟩
  tab := ⟨⟨ga, gg, eC, hC⟩, nb, iC, ac, ds, tk, mr⟩
  exm := exm_of eS iS tS sS
end Sy

set_option Elab.async false
set_option linter.all false
set_option maxRecDepth 100000
/-! S20: the ink and what stands beside it; more rules: zip, list(range), index, is. -/
namespace Sy
open PySem PySem.Spec PyProof.Rows L2
/-! ### stores -/
/-- all but what stands at p stays -/
def Grow (p : Addr) (M M' : Mem) : Prop := ∀ a o, a ≠ p → M a = some o → M' a = some o
theorem Grow.refl {p : Addr} {M : Mem} : Grow p M M := fun _ _ _ h => h
theorem Grow.trans {p : Addr} {M M1 M2 : Mem} (a : Grow p M M1) (b : Grow p M1 M2) : Grow p M M2 := fun c o h z => b c o h (a c o h z)
theorem Grow.sub {p : Addr} {M M1 M2 : Mem} (a : Grow p M M1) (h : Sub M1 M2) : Grow p M M2 := fun c o n z => h c o (a c o n z)
theorem Grow.of {p : Addr} {M M2 : Mem} (h : Sub M M2) : Grow p M M2 := fun c o _ z => h c o z
theorem Grow.put {p q : Addr} {M M' : Mem} {o : MO} (a : Grow p M M') (h : M q = none) : Grow p M (updM M' q o) := fun c u n z => by
  rw [updM_ne (neM z h)]
  exact a c u n z
theorem Grow.none {p q : Addr} {M M' : Mem} (g : Grow p M M') (h : M' q = none) (ne : q ≠ p) : M q = none := by
  cases z : M q with
  | none => rfl
  | some o => rw [g q o ne z] at h; cases h
theorem Kn.grow {p : Addr} {M M' : Mem} {s : S} (h : Kn M s) (g : Grow p M M') (hp : M' p ≠ Option.none) : Kn M' s := h.up fun q hq => by
  by_cases e : q = p
  · rw [e]; exact hp
  · cases z : M q with
    | none => exact absurd z hq
    | some o => rw [g q o e z]; exact fun z => nomatch z
def inkB : Nat := 1048700
/-- the ink: what is left, what is mixed, how often -/
def Ink (M : Mem) (p : Addr) (n : Nat) : Prop := ∃ a b c : Int, M p = some (.lst [.int a, .int b, .int c]) ∧ (0 ≤ a ∧ a.natAbs < 2 ^ inkB) ∧ (0 ≤ b ∧ b < 2 ^ 90) ∧ 0 ≤ c ∧ c ≤ n
theorem Ink.up {M : Mem} {p : Addr} {n m : Nat} (h : Ink M p n) (k : n ≤ m) : Ink M p m := by
  obtain ⟨a, b, c, h1, h2, h3, h4, h5⟩ := h
  exact ⟨a, b, c, h1, h2, h3, h4, by omega⟩
theorem Ink.there {M : Mem} {p : Addr} {n : Nat} (h : Ink M p n) : ∃ o, M p = some o := by
  obtain ⟨a, b, c, h1, _⟩ := h
  exact ⟨_, h1⟩
theorem Ink.ne {M : Mem} {p : Addr} {n : Nat} (h : Ink M p n) : M p ≠ none := by
  obtain ⟨o, h1⟩ := h.there
  rw [h1]; exact fun z => nomatch z
theorem Ink.neq {M : Mem} {p q : Addr} {n : Nat} (h : Ink M p n) (hq : M q = none) : q ≠ p := fun e => h.ne (by rw [← e]; exact hq)
theorem Ink.putNe {M : Mem} {p q : Addr} {n : Nat} {o : MO} (h : Ink M p n) (ne : p ≠ q) : Ink (updM M q o) p n := by
  obtain ⟨a, b, c, h1, h2⟩ := h
  exact ⟨a, b, c, (updM_ne ne).trans h1, h2⟩
theorem Ink.sub {M M' : Mem} {p : Addr} {n : Nat} (h : Ink M p n) (k : Sub M M') : Ink M' p n := by
  obtain ⟨a, b, c, h1, h2⟩ := h
  exact ⟨a, b, c, k _ _ h1, h2⟩
def But (p : Addr) (M M' : Mem) : Prop := ∀ q, q ≠ p → M' q = M q
theorem But.put {M : Mem} {p : Addr} {o : MO} : But p M (updM M p o) := fun q h => updM_ne h
theorem But.trans {p : Addr} {M M1 M2 : Mem} (a : But p M M1) (b : But p M1 M2) : But p M M2 := fun q h => (b q h).trans (a q h)
theorem But.refl {p : Addr} {M : Mem} : But p M M := fun _ _ => rfl
theorem But.grow {p : Addr} {M M' : Mem} (h : But p M M') : Grow p M M' := fun a o n e => (h a n).trans e
/-- the ink, and what else stands in the store since M0 -/
structure Sx (p : Addr) (n : Nat) (M0 : Mem) (C : List (Addr × MO)) (M : Mem) : Prop where
  ink : Ink M p n
  gr : Grow p M0 M
  has : ∀ c, c ∈ C → M c.1 = some c.2 ∧ c.1 ≠ p ∧ M0 c.1 = none
  nd : (C.map (·.1)).Nodup
section
variable {p u q : Addr} {n m : Nat} {M0 M M' : Mem} {C C2 : List (Addr × MO)} {o o' : MO}
theorem Sx.of (h : Ink M p n) : Sx p n M [] M := ⟨h, Grow.refl, (fun c hc => nomatch hc), List.nodup_nil⟩
theorem Sx.but (h : Ink M' p n) (b : But p M M') : Sx p n M [] M' := ⟨h, b.grow, (fun c hc => nomatch hc), List.nodup_nil⟩
theorem Sx.up (s : Sx p n M0 C M) (k : n ≤ m) : Sx p m M0 C M := ⟨s.ink.up k, s.gr, s.has, s.nd⟩
theorem Sx.fresh (s : Sx p n M0 C M) (hu : M u = none) : u ≠ p ∧ M0 u = none ∧ ∀ c, c ∈ C → c.1 ≠ u := by
  have e := s.ink.neq hu
  refine ⟨e, s.gr.none hu e, fun c hc z => ?_⟩
  have h := (s.has c hc).1
  rw [z, hu] at h
  cases h
theorem Sx.new (s : Sx p n M0 C M) (hu : M u = none) : Sx p n M0 ((u, o) :: C) (updM M u o) := by
  obtain ⟨e1, e2, e3⟩ := s.fresh hu
  refine ⟨s.ink.putNe e1.symm, s.gr.sub (Sub.new hu), fun c hc => ?_, ?_⟩
  · rcases List.mem_cons.mp hc with rfl | z
    · exact ⟨updM_same, e1, e2⟩
    · obtain ⟨a, b⟩ := s.has c z
      exact ⟨(updM_ne (e3 c z)).trans a, b⟩
  · rw [List.map_cons]
    refine List.nodup_cons.mpr ⟨fun hm => ?_, s.nd⟩
    obtain ⟨c, hc, ec⟩ := List.mem_map.mp hm
    exact e3 c hc ec
theorem Sx.gen (s : Sx p n M0 C M) (hu : M u = none) (e : updM M u o = M') : Sx p n M0 ((u, o) :: C) M' := e ▸ s.new hu
theorem Sx.sub (s : Sx p n M0 C M) (k : Sub M M') : Sx p n M0 C M' := ⟨s.ink.sub k, s.gr.sub k, fun c hc => ⟨k _ _ (s.has c hc).1, (s.has c hc).2⟩, s.nd⟩
/-- behind a call -/
theorem Sx.call (s : Sx p n M0 C M) (t : Sx p m M C2 M') : Sx p m M0 (C2 ++ C) M' := by
  refine ⟨t.ink, s.gr.trans t.gr, fun c hc => ?_, ?_⟩
  · rcases List.mem_append.mp hc with z | z
    · obtain ⟨a, b, e⟩ := t.has c z
      exact ⟨a, b, s.gr.none e b⟩
    · obtain ⟨a, b, e⟩ := s.has c z
      exact ⟨t.gr _ _ b a, b, e⟩
  · rw [List.map_append]
    refine List.nodup_append.mpr ⟨t.nd, s.nd, fun a ha b hb e => ?_⟩
    obtain ⟨c, hc, ec⟩ := List.mem_map.mp ha
    obtain ⟨d, hd, ed⟩ := List.mem_map.mp hb
    have h1 := (t.has c hc).2.2
    have h2 := (s.has d hd).1
    rw [ed, ← e, ← ec, h1] at h2
    cases h2
theorem Sx.at (s : Sx p n M0 C M) (i : Nat) (h : C[i]? = some (q, o)) : M q = some o := (s.has _ (List.mem_of_getElem? h)).1
theorem Sx.old (s : Sx p n M0 C M) (h : M0 q = some o) (ne : q ≠ p) : M q = some o := s.gr _ _ ne h
theorem Sx.kn (s : Sx p n M0 C M) (i : Nat) (h : C[i]? = some (q, o)) : Kn M (.ptr q) := .ptr (s.at i h)
theorem Sx.kno {x : S} (s : Sx p n M0 C M) (h : Kn M0 x) : Kn M x := h.grow s.gr s.ink.ne
theorem Sx.drop (s : Sx p n M0 C M) (k : Nat) : Sx p n M0 (C.drop k) M := ⟨s.ink, s.gr, fun c hc => s.has c (List.mem_of_mem_drop hc), by rw [List.map_drop]; exact s.nd.sublist (List.drop_sublist ..)⟩
theorem Sx.pick (s : Sx p n M0 C M) (i : Nat) (h : C[i]? = some (q, o)) : Sx p n M0 [(q, o)] M := ⟨s.ink, s.gr, fun c hc => by rw [List.mem_singleton.mp hc]; exact s.has _ (List.mem_of_getElem? h), by simp⟩
/-- what stands at place i is changed -/
theorem Sx.set (s : Sx p n M0 C M) (i : Nat) (h : C[i]? = some (q, o)) : Sx p n M0 (C.set i (q, o')) (updM M q o') := by
  have hm := s.has _ (List.mem_of_getElem? h)
  obtain ⟨hi, ei⟩ := List.getElem?_eq_some_iff.mp h
  refine ⟨s.ink.putNe (Ne.symm hm.2.1), s.gr.put hm.2.2, fun c hc => ?_, ?_⟩
  · by_cases e : c.1 = q
    · obtain ⟨j, hj, ej⟩ := List.getElem_of_mem hc
      rw [List.length_set] at hj
      by_cases hij : i = j
      · subst hij
        rw [List.getElem_set_self] at ej
        rw [← ej]
        exact ⟨updM_same, hm.2⟩
      · rw [List.getElem_set_ne hij] at ej
        have z := s.nd
        have z1 : (C.map (·.1))[i]'(by simpa using hi) = (C.map (·.1))[j]'(by simpa using hj) := by
          rw [List.getElem_map, List.getElem_map, ei, ej]; exact e.symm
        exact absurd ((List.getElem_inj z).mp z1) hij
    · rcases List.mem_or_eq_of_mem_set hc with z | z
      · obtain ⟨a, b⟩ := s.has c z
        exact ⟨(updM_ne e).trans a, b⟩
      · rw [z] at e; exact absurd rfl e
  · rw [List.map_set]
    have z : (C.map (·.1)).set i q = C.map (·.1) := by
      apply List.ext_getElem? 
      intro j
      rw [List.getElem?_set]
      by_cases hij : i = j
      · subst hij
        rw [if_pos rfl, List.length_map, if_pos hi, List.getElem?_map, h]; rfl
      · rw [if_neg hij]
    show ((C.map (·.1)).set i q).Nodup
    rw [z]
    exact s.nd
end
section
variable {X : Cx} {G : Hp} {env : Ev} {M : Mem} {D : SD} {Q : QS} {a b c e o e1 e2 : Expr} {es : List Expr} {pos : Pos} {N : List Str} {sc : Scope} {k : Nat}
/-! ### zip of two lists -/
def zipS (xs ys : List S) : List S := List.zipWith (fun x y => S.tup [x, y]) xs ys
theorem zipS_len {xs ys : List S} (h : xs.length = ys.length) : (zipS xs ys).length = xs.length := by unfold zipS; rw [List.length_zipWith]; omega
theorem zipS_get {xs ys : List S} {i : Nat} {s : S} (h : (zipS xs ys)[i]? = some s) : ∃ x y, xs[i]? = some x ∧ ys[i]? = some y ∧ s = .tup [x, y] := by
  unfold zipS at h
  rw [List.getElem?_zipWith] at h
  cases e1 : xs[i]? with
  | none => rw [e1] at h; cases h
  | some x =>
    cases e2 : ys[i]? with
    | none => rw [e1, e2] at h; cases h
    | some y => rw [e1, e2] at h; cases h; exact ⟨x, y, rfl, rfl, rfl⟩
theorem si_zip {elts : List Expr} {kk : Nat} {tpos p : Pos} {Q : List S → (Mem → Prop) → Mem → Prop} (hg : Gl X "zip") (hm : X.mg "zip" = none)
    (h : SA X G [e1, e2] env M fun ss M1 => ∃ p r xs ys, ss = [.ptr p, .ptr r] ∧ M1 p = some (.lst xs) ∧ M1 r = some (.lst ys) ∧ xs.length = ys.length ∧ Q (zipS xs ys) (fun M' => M' p = some (.lst xs) ∧ M' r = some (.lst ys)) M1)
    (hs : starEach [e1, e2] X.env = (false, eval e1 X.env) :: starEach [e2] X.env := by rfl) (hpl : (backTo pos (starEach [e2] X.env)).any (·.1) = false := by rfl) : SI X G (.Tuple elts kk tpos) (.Call (.Name "zip" p) [e1, e2] [] pos) env M Q := fun σ H R =>
  ⟨_, pi_zip hg hm (pa_S (G := G)) hs hpl, tSA_go R h fun ss M1 vs H1 k1 rvs R1 ⟨p, r, xs, ys, es, hp, hr, hl, q⟩ => by
    subst es
    obtain ⟨v, w, rfl, r1, r2⟩ := rvs2 rvs
    cases r1; cases r2
    obtain ⟨us, h1, h2⟩ := R1.mem p _ hp
    obtain ⟨ws, h3, h4⟩ := R1.mem r _ hr
    refine ⟨p, r, us, ws, rfl, SqL.of h1, SqL.of h3, zipS xs ys, _, M1, k1, R1.mem, ⟨fun i M' H' m k' g hi => ?_, fun i M' H' v H'' m k' g hi y => ?_, fun M' H' m k' g => ?_⟩, q⟩
    · obtain ⟨vs1, a1, a2⟩ := m p _ g.1
      obtain ⟨vs2, a3, a4⟩ := m r _ g.2
      rw [zipS_len hl] at hi
      have i1 : i < vs1.length := by rw [← a2.length]; exact hi
      have i2 : i < vs2.length := by rw [← a4.length, ← hl]; exact hi
      exact ⟨vs1, vs2, vs1[i], vs2[i], SqL.of a1, SqL.of a3, by simp [i1], by simp [i2]⟩
    · obtain ⟨vs1, a1, a2⟩ := m p _ g.1
      obtain ⟨vs2, a3, a4⟩ := m r _ g.2
      obtain ⟨T, x, y, rfl, hT, rfl, f1, f2⟩ := y
      obtain ⟨s1, b1, b2⟩ := a2.getV (f1 _ (SqL.of a1))
      obtain ⟨s2, b3, b4⟩ := a4.getV (f2 _ (SqL.of a3))
      refine ⟨.tup [s1, s2], ?_, .tup (.inl upd_same) (.cons (b2.up (keep_new hT)) (.cons (b4.up (keep_new hT)) .nil)), keep_new hT, m.skip hT⟩
      unfold zipS
      rw [List.getElem?_zipWith, b1, b3]
    · obtain ⟨vs1, a1, a2⟩ := m p _ g.1
      obtain ⟨vs2, a3, a4⟩ := m r _ g.2
      exact ⟨vs1, vs2, SqL.of a1, SqL.of a3, .inl (by rw [zipS_len hl, a2.length]; exact Nat.le_refl _)⟩⟩
/-! ### list(range(n)) -/
theorem rvs_rg {K : PySem.W.Frag} {H : Hp} (n : Int) : RVs K H (rgS 0 n.toNat) (rgV 0 n) := by
  have e1 : rgV 0 n = ((List.range n.toNat).map fun (i : Nat) => (0 : Int) + (i : Int)).map V.int := by unfold rgV; rw [Int.sub_zero, List.map_map]; rfl
  have e2 : rgS 0 n.toNat = ((List.range n.toNat).map fun (i : Nat) => (0 : Int) + (i : Int)).map S.int := by unfold rgS; rw [List.map_map]; rfl
  rw [e1, e2]
  exact RVs.ints _
theorem se_listRg {p p2 pos2 : Pos} (hg : Gl X "list") (hm : X.mg "list" = none) (hg2 : Gl X "range") (hm2 : X.mg "range" = none) (hc : X.calm = true) (h : SE X G a env M fun s M1 => ∃ n : Int, s = .int n ∧ 0 ≤ n ∧ n ≤ 1000 ∧ ∀ p, M1 p = none → Q (.ptr p) (updM M1 p (.lst (rgS 0 n.toNat))))
    (na : starEach [a] X.env = (false, eval a X.env) :: starEach [] X.env := by rfl) (na2 : starEach [.Call (.Name "range" p2) [a] [] pos2] X.env = (false, eval (.Call (.Name "range" p2) [a] [] pos2) X.env) :: starEach [] X.env := by rfl) :
    SE X G (.Call (.Name "list" p) [.Call (.Name "range" p2) [a] [] pos2] [] pos) env M Q := fun σ H R =>
  ⟨_, pe_listRg hc hg hm (prg_1 hg2 hm2 (pe_S (G := G)) na) na2, tS_go R h fun s M1 v H1 k1 rv R1 ⟨n, es, n0, n1, q⟩ => by
    subst es
    cases rv
    refine ⟨n, rfl, RgOk.of_le (by omega) (by omega) (by omega) (by omega), fun p hp => ?_⟩
    exact ⟨.ptr p, _, k1.trans (keep_new hp), .ptr p, put_lst R1.mem hp (rvs_rg n), q p (R1.mem.free hp)⟩⟩
/-! ### xs.index(y), ints -/
theorem flat_ints (ns : List Int) : (ns.map V.int).all flatV = true := by
  rw [List.all_eq_true]
  intro x hx
  obtain ⟨n, _, rfl⟩ := List.mem_map.mp hx
  rfl
theorem eqV_int (i j : Int) : eqV (V.int i) (.int j) = decide (i = j) := by
  show (i == j) = decide (i = j)
  by_cases h : i = j
  · subst h; simp
  · simp [h]
theorem idx_first {ns : List Int} {x : Int} (h : x ∈ ns) : ns[ns.idxOf x]? = some x ∧ ∀ m z, m < ns.idxOf x → ns[m]? = some z → z ≠ x := by
  induction ns with
  | nil => cases h
  | cons y ys ih =>
    rw [List.idxOf_cons]
    by_cases e : (y == x) = true
    · rw [e]
      have e' : y = x := by simpa using e
      refine ⟨by simp [e'], fun m z hm => ?_⟩
      simp at hm
    · have e' : (y == x) = false := by simpa using e
      rw [e']
      have hne : y ≠ x := by simpa using e
      have h' : x ∈ ys := by
        rcases List.mem_cons.mp h with z | z
        · exact absurd z.symm hne
        · exact z
      obtain ⟨i1, i2⟩ := ih h'
      refine ⟨by simpa using i1, fun m z hm hz => ?_⟩
      cases m with
      | zero => simp at hz; rw [← hz]; exact hne
      | succ m => exact i2 m z (by simpa using hm) (by simpa using hz)
theorem se_index {apos : Pos} (h : SE X G o env M fun s M1 => ∃ p, s = .ptr p ∧ (∃ xs, M1 p = some (.lst xs)) ∧ SE X G e env M1 fun y M2 => ∃ (ns : List Int) (x : Int), y = .int x ∧ M2 p = some (.lst (ns.map S.int)) ∧ x ∈ ns ∧ Q (.int (ns.idxOf x : Nat)) M2)
    (hbase : attributeBase o "index" X.env (eval o X.env) = eval o X.env := by rfl) (hfew : ((backTo pos (starEach [e] X.env)).all (fun x => !x.1) && (backToKw pos (keywordEach [] X.env)).all (fun x => x.1.isSome) && decide (([e] : List Expr).length + ([] : List Keyword).length + (if ([] : List Keyword).isEmpty then 0 else 1) < 30)) = true := by rfl)
    (hline : (apos.endLine == pos.line) = true := by rfl) (hs : starEach [e] X.env = (false, eval e X.env) :: starEach [] X.env := by rfl) (hpl : (backTo pos (starEach [] X.env)).any (·.1) = false := by rfl) : SE X G (.Call (.Attribute o "index" apos) [e] [] pos) env M Q := fun σ H R =>
  ⟨_, pe_bm PySem.F.plainAttrs_list PySem.F.slot_list_index PySem.F.type_list_index mt_index pe_S (pa_cons (te := tS X G e) pe_S pa_nil hs) hbase hfew hline hs hpl,
    tS_go R h fun s M1 v H1 k1 rv R1 ⟨p, e1, ⟨xs0, hp0⟩, q1⟩ => by
      subst e1
      cases rv
      obtain ⟨vs0, h10, _⟩ := R1.mem p _ hp0
      refine ⟨.inl ⟨rfl, _, SqL.of h10⟩, tS_go R1 q1 fun y M2 w H2 k2 rw R2 ⟨ns, x, ey, hp, hx, q2⟩ => ?_⟩
      subst ey
      cases rw
      obtain ⟨vs, h1, h2⟩ := R2.mem p _ hp
      have ev := rvs_ints h2
      subst ev
      obtain ⟨i1, i2⟩ := idx_first hx
      refine ⟨p, ns.map V.int, .int x, ns.idxOf x, .int x, rfl, rfl, SqL.of h1, rfl, flat_ints ns, by rw [List.getElem?_map, i1]; rfl, by rw [eqV_int]; simp, fun m z hm hz => ?_, .int _, M2, k1.trans k2, .int _, R2.mem, q2⟩
      rw [List.getElem?_map] at hz
      obtain ⟨y, hy, rfl⟩ := Option.map_eq_some_iff.mp hz
      rw [eqV_int]
      exact decide_eq_false (i2 m y hm hy)⟩
/-! ### x is True, x an int -/
theorem op_isIB {X : Cx} : OpR X (compareOp .Is) (fun x y H Q => ∃ (i : Int) (b : Bool), x = .int i ∧ y = .bl b ∧ Q (.bl false) H) := by
  intro pins s σ H x y v u Q I rx ry h
  obtain ⟨i, b, rfl, rfl, q⟩ := h
  obtain ⟨t, rfl⟩ := rx
  cases ry
  show wpAny _ _ ((isSame (Value.int i t) (Value.bool b)) >>= fun z => pure (Value.bool z)) _ _ s
  exact wpAny_bind (wpAny_isSame_plain rfl (wpAny_pure (fin_bl I q rfl)))
theorem rc_isIB {i : Int} {b : Bool} (q : Q (.bl false) M) : RC X .Is (.int i) (.bl b) M Q := fun v w H m r1 r2 => by
  cases r1; cases r2
  exact ⟨_, op_isIB, i, b, rfl, rfl, pack (.bl _) m q⟩
end
/-- a call by keywords too -/
theorem cutS_get (xs : List S) (i j : Nat) : cutS xs (some (i : Int)) (some (j : Int)) = (xs.drop (min i xs.length)).take (min j xs.length - min i xs.length) := by
  unfold cutS
  rw [HT.sIx_nat, HT.sIx_nat]
end Sy

set_option Elab.async false
set_option linter.all false
set_option maxRecDepth 100000
/-! S21: comprehensions that draw. -/
namespace Sy
open PySem PySem.Spec PyProof.Rows L2
section
variable {X : Cx} {G : Hp} {env : Ev} {M : Mem} {D : SD} {Q : QS} {pos : Pos} {N : List Str} {sc : Scope} {k : Nat}
theorem lc_draw {elt : Expr} {scope : Scope} {i : Nat} {xs : List S} {Gd : Mem → Prop} {p : Addr} {n0 : Nat} {M0 : Mem} {C : List (Addr × MO)} (step : Nat) (Pd : S → Prop) (s0 : Sx p n0 M0 C M) (hl : xs.length ≤ 1000) (hg : ∀ m c M', Sx p m M0 (c :: C) M' → Gd M')
    (turn : ∀ j s m D acc M', xs[j]? = some s → n0 ≤ m → m ≤ n0 + step * j → acc.length = j → Sx p m M0 ((D, .lst acc) :: C) M' → ∀ (s0 : Shared) (H0 : Hp) (C0 : Addr) (cl0 : List (Str × Addr)) (fp0 : List Addr), DN (X.blk s0 H0 scope (compEnvC scope cl0 C0 X.env) fp0) N (blkS sc scope) k →
      SE (X.blk s0 H0 scope (compEnvC scope cl0 C0 X.env) fp0) G elt (env.set i (some s)) M' fun y M2 => Pd y ∧ Sx p (m + step) M0 ((D, .lst acc) :: C) M2)
    (fin : ∀ D acc M', acc.length = xs.length → (∀ y, y ∈ acc → Pd y) → Sx p (n0 + step * xs.length) M0 ((D, .lst acc) :: C) M' → Q (.ptr D) M') :
    ∀ D, M D = none → ∃ I : Nat → List S → Mem → Prop, I 0 [] (updM M D (.lst [])) ∧ (∀ j acc M', M' D = some (.lst acc) → I j acc M' → Gd M') ∧
      (∀ j s acc M', xs[j]? = some s → M' D = some (.lst acc) → I j acc M' → ∀ (s0 : Shared) (H0 : Hp) (C0 : Addr) (cl0 : List (Str × Addr)) (fp0 : List Addr), DN (X.blk s0 H0 scope (compEnvC scope cl0 C0 X.env) fp0) N (blkS sc scope) k → SE (X.blk s0 H0 scope (compEnvC scope cl0 C0 X.env) fp0) G elt (env.set i (some s)) M' (LcQ D acc (I (j + 1)))) ∧ ∀ acc M', M' D = some (.lst acc) → I xs.length acc M' → Q (.ptr D) M' := by
  intro D hD
  refine ⟨fun j acc M' => acc.length = j ∧ j ≤ xs.length ∧ (∀ y, y ∈ acc → Pd y) ∧ Sx p (n0 + step * j) M0 ((D, .lst acc) :: C) M', ⟨rfl, Nat.zero_le _, (fun y hy => nomatch hy), (s0.new hD).up (by omega)⟩, fun j acc M' _ ⟨_, _, _, e⟩ => hg _ _ _ e, fun j s acc M' es eD ⟨ea, eb, ep, e⟩ s1 H1 C1 cl1 fp1 dn => ?_, fun acc M' eD ⟨ea, eb, ep, e⟩ => ?_⟩
  · refine (turn j s (n0 + step * j) D acc M' es (by omega) (Nat.le_refl _) ea e s1 H1 C1 cl1 fp1 dn).mono fun y M2 ⟨py, s2⟩ => ?_
    have hj : j < xs.length := (List.getElem?_eq_some_iff.mp es).1
    have hz : (sizeLine : Nat) = 16777216 := sizeLine_eq
    refine ⟨s2.at 0 rfl, by omega, ?_, by omega, fun z hz => ?_, ?_⟩
    · rw [List.length_append, ea]; rfl
    · rcases List.mem_append.mp hz with q | q
      · exact ep z q
      · rw [List.mem_singleton.mp q]; exact py
    · have e1 : n0 + step * (j + 1) = n0 + step * j + step := by rw [Nat.mul_succ]; omega
      rw [e1]
      exact s2.set 0 rfl
  · exact fin D acc M' ea ep e
/-- [elt for x in iter], drawn -/
theorem dx_draw (d : DN X N sc k) (nd : N.Nodup) (i : Nat) {elt iter : Expr} {scope : Scope} {x : Str} {px : Pos} (hi : (decide (N[i]? = some x) && loS scope x && blkC N sc scope [(x, i)]) = true) (hs : ∀ x, foldedSetIterable iter X.env x = pure x)
    (h : SI X G (.Name x px) iter env M fun xs Gd M1 => ∃ (p : Addr) (n0 : Nat) (M0 : Mem) (C : List (Addr × MO)) (step : Nat) (Pd : S → Prop), Sx p n0 M0 C M1 ∧ xs.length ≤ 1000 ∧ (∀ m c M', Sx p m M0 (c :: C) M' → Gd M') ∧
      (∀ j s m D acc M', xs[j]? = some s → n0 ≤ m → m ≤ n0 + step * j → acc.length = j → Sx p m M0 ((D, .lst acc) :: C) M' → ∀ (s0 : Shared) (H0 : Hp) (C0 : Addr) (cl0 : List (Str × Addr)) (fp0 : List Addr), DN (X.blk s0 H0 scope (compEnvC scope cl0 C0 X.env) fp0) N (blkS sc scope) k →
        SE (X.blk s0 H0 scope (compEnvC scope cl0 C0 X.env) fp0) G elt (env.set i (some s)) M' fun y M2 => Pd y ∧ Sx p (m + step) M0 ((D, .lst acc) :: C) M2) ∧
      (∀ D acc M', acc.length = xs.length → (∀ y, y ∈ acc → Pd y) → Sx p (n0 + step * xs.length) M0 ((D, .lst acc) :: C) M' → Q (.ptr D) M')) :
    SE X G (.ListComp elt [⟨.Name x px, iter, [], 0⟩] scope pos) env M Q := by
  refine dx_lc d nd i hi hs fun σ H R => ⟨_, pi_S (G := G), env, M, _, R, h, fun J H' ⟨xs, Gd, M1, k1, m1, g1, p, n0, M0, C, step, Pd, a, b, c, e, f⟩ => ⟨xs, Gd, M1, k1, m1, g1, ?_⟩⟩
  exact lc_draw step Pd a b c e f
/-- y = [elt for x in iter], drawn -/
theorem dx_setDraw (d : DX X N sc k) (jy : Nat) (i : Nat) {elt iter : Expr} {scope : Scope} {x y : Str} {px py spos : Pos} (hy : loB N sc jy y = true) (hi : (decide (N[i]? = some x) && loS scope x && blkC N sc scope [(x, i)]) = true) (hs : ∀ x, foldedSetIterable iter X.env x = pure x)
    (hl : (py.line == pos.line) = true) (hb : (scope.names.any fun (n, k) => n == y && (k == .local || k == .cell)) = false) (hk : sc.kind = .function)
    (h : SI X G (.Name x px) iter env M fun xs Gd M1 => ∃ (p : Addr) (n0 : Nat) (M0 : Mem) (C : List (Addr × MO)) (step : Nat) (Pd : S → Prop), Sx p n0 M0 C M1 ∧ xs.length ≤ 1000 ∧ (∀ m c M', Sx p m M0 (c :: C) M' → Gd M') ∧
      (∀ j s m D acc M', xs[j]? = some s → n0 ≤ m → m ≤ n0 + step * j → acc.length = j → Sx p m M0 ((D, .lst acc) :: C) M' → ∀ (s0 : Shared) (H0 : Hp) (C0 : Addr) (cl0 : List (Str × Addr)) (fp0 : List Addr), DN (X.blk s0 H0 scope (compEnvC scope cl0 C0 X.env) fp0) N (blkS sc scope) k →
        SE (X.blk s0 H0 scope (compEnvC scope cl0 C0 X.env) fp0) G elt (env.set i (some s)) M' fun y M2 => Pd y ∧ Sx p (m + step) M0 ((D, .lst acc) :: C) M2) ∧
      (∀ D1 acc M', acc.length = xs.length → (∀ y, y ∈ acc → Pd y) → Sx p (n0 + step * xs.length) M0 ((D1, .lst acc) :: C) M' → D.nx (env.set jy (some (.ptr D1))) M')) :
    SS X G (.Assign [.Name y py] (.ListComp elt [⟨.Name x px, iter, [], 0⟩] scope pos) spos) env M D := by
  refine dx_setLc d jy i hy hi hs hl hb hk fun σ H R => ⟨_, pi_S (G := G), env, M, _, R, h, fun J H' ⟨xs, Gd, M1, k1, m1, g1, p, n0, M0, C, step, Pd, a, b, c, e, f⟩ => ⟨xs, Gd, M1, k1, m1, g1, ?_⟩⟩
  exact lc_draw (Q := fun s M' => D.nx (env.set jy (some s)) M') step Pd a b c e f
/-- name = [.. for ..], reckoned without a change -/
theorem dx_setMap (d : DX X N sc k) (jy : Nat) (i : Nat) {elt iter : Expr} {scope : Scope} {x y : Str} {px py spos : Pos} (hy : loB N sc jy y = true) (hi : (decide (N[i]? = some x) && loS scope x && blkC N sc scope [(x, i)]) = true) (hs : ∀ x, foldedSetIterable iter X.env x = pure x)
    (hl : (py.line == pos.line) = true) (hb : (scope.names.any fun (n, k) => n == y && (k == .local || k == .cell)) = false) (hk : sc.kind = .function)
    (h : SI X G (.Name x px) iter env M fun xs Gd M1 => ∃ f : S → S, xs.length < sizeLine ∧ (∀ M', Sub M1 M' → Gd M') ∧ (∀ D M', M1 D = none → Sub M1 M' → ∀ s, s ∈ xs → ∀ (s0 : Shared) (H0 : Hp) (C0 : Addr) (cl0 : List (Str × Addr)) (fp0 : List Addr), DN (X.blk s0 H0 scope (compEnvC scope cl0 C0 X.env) fp0) N (blkS sc scope) k →
      SE (X.blk s0 H0 scope (compEnvC scope cl0 C0 X.env) fp0) G elt (env.set i (some s)) M' fun y M2 => y = f s ∧ Sub M' M2) ∧ ∀ D1 M', M1 D1 = none → Sub M1 M' → M' D1 = some (.lst (xs.map f)) → D.nx (env.set jy (some (.ptr D1))) M') :
    SS X G (.Assign [.Name y py] (.ListComp elt [⟨.Name x px, iter, [], 0⟩] scope pos) spos) env M D := by
  refine dx_setLc d jy i hy hi hs hl hb hk fun σ H R => ⟨_, pi_S (G := G), env, M, _, R, h, fun J H' ⟨xs, Gd, M1, k1, m1, g1, f, a, b, c, e⟩ => ⟨xs, Gd, M1, k1, m1, g1, ?_⟩⟩
  exact lc_map (Q := fun s M' => D.nx (env.set jy (some s)) M') f a b c e
end
/-- told and due are the same data -/
inductive Sm (M : Mem) : Nat → S → S → Prop
  | int (n : Nat) (i : Int) : Sm M n (.int i) (.int i)
  | bl (n : Nat) (b : Bool) : Sm M n (.bl b) (.bl b)
  | non (n : Nat) : Sm M n .non .non
  | tup {n : Nat} {xs ys : List S} (hl : xs.length = ys.length) (h1 : xs.length ≤ 1000) (h : ∀ (k : Nat) (x y : S), xs[k]? = some x → ys[k]? = some y → Sm M n x y) : Sm M (n + 1) (.tup xs) (.tup ys)
  | lst {n : Nat} {p q : Addr} {xs ys : List S} (hp : M p = some (.lst xs)) (hq : M q = some (.lst ys)) (hl : xs.length = ys.length) (h1 : xs.length ≤ 1000) (h : ∀ (k : Nat) (x y : S), xs[k]? = some x → ys[k]? = some y → Sm M n x y) : Sm M (n + 1) (.ptr p) (.ptr q)
theorem Sm.sub {M M' : Mem} {n : Nat} {x y : S} (h : Sm M n x y) (k : Sub M M') : Sm M' n x y := by
  induction h with
  | int n i => exact .int n i
  | bl n b => exact .bl n b
  | non n => exact .non n
  | tup hl h1 _ ih => exact .tup hl h1 ih
  | lst hp hq hl h1 _ ih => exact .lst (k _ _ hp) (k _ _ hq) hl h1 ih
theorem Sm.ints {M : Mem} {n : Nat} (ns : List Int) (h : ns.length ≤ 1000) : Sm M (n + 1) (.tup (ns.map S.int)) (.tup (ns.map S.int)) := by
  refine .tup rfl (by rw [List.length_map]; exact h) fun k x y hx hy => ?_
  rw [hx] at hy
  cases hy
  rw [List.getElem?_map] at hx
  obtain ⟨i, _, rfl⟩ := Option.map_eq_some_iff.mp hx
  exact .int n i
theorem Sm.one {M : Mem} {n : Nat} {x y : S} (h : Sm M n x y) : Sm M (n + 1) (.tup [x]) (.tup [y]) := .tup rfl (by simp) fun k a b ha hb => by
  cases k with
  | zero => simp at ha hb; subst ha hb; exact h
  | succ k => simp at ha
theorem Sm.two {M : Mem} {n : Nat} {x y a b : S} (h : Sm M n x y) (g : Sm M n a b) : Sm M (n + 1) (.tup [x, a]) (.tup [y, b]) := .tup rfl (by simp) fun k u v hu hv => by
  match k with
  | 0 => simp at hu hv; subst hu hv; exact h
  | 1 => simp at hu hv; subst hu hv; exact g
  | k + 2 => simp at hu
theorem Sm.up {M : Mem} {n m : Nat} {x y : S} (h : Sm M n x y) (k : n ≤ m) : Sm M m x y := by
  induction h generalizing m with
  | int n i => exact .int m i
  | bl n b => exact .bl m b
  | non n => exact .non m
  | tup hl h1 _ ih =>
    obtain ⟨m, rfl⟩ : ∃ m', m = m' + 1 := ⟨m - 1, by omega⟩
    exact .tup hl h1 fun k x y hx hy => ih k x y hx hy (by omega)
  | lst hp hq hl h1 _ ih =>
    obtain ⟨m, rfl⟩ : ∃ m', m = m' + 1 := ⟨m - 1, by omega⟩
    exact .lst hp hq hl h1 fun k x y hx hy => ih k x y hx hy (by omega)
end Sy

set_option Elab.async false
set_option linter.all false
/-! S22: small helps. -/
namespace Sy
open PySem PySem.Spec PyProof.Rows L2
theorem nm_of {X : Cx} {N : List Str} {sc : Scope} {k : Nat} (d : DN X N sc k) (i : Nat) (x : Str) (h : nmB N sc i x = true) : nmB N sc i x = true := h
theorem glf {X : Cx} {N : List Str} {sc : Scope} {k : Nat} (d : DN X N sc k) (x : Str) (h : glB sc x = true) : glB sc x = true := h
theorem map_erase {α β : Type} (f : α → β) : ∀ (xs : List α) (i : Nat), (xs.map f).eraseIdx i = (xs.eraseIdx i).map f
  | [], _ => rfl
  | _ :: _, 0 => rfl
  | x :: xs, i + 1 => by
    show f x :: (xs.map f).eraseIdx i = f x :: (xs.eraseIdx i).map f
    rw [map_erase f xs i]
end Sy

set_option Elab.async false
set_option linter.all false
set_option maxRecDepth 100000
/-! S23: try: .. except X as n: m = n, by names. -/
namespace Sy
open PySem PySem.Spec PyProof.Rows L2
theorem dx_keep {X : Cx} {G : Hp} {env : Ev} {M : Mem} {D : SD} {N : List Str} {sc : Scope} {k : Nat} {x n m : Str} {cS : Addr} {body : List Stmt} {p1 p2 p3 p4 p5 p6 : Pos} (d : DX X N sc k) (de : DE X) (i j : Nat) (hi : loB N sc i n = true) (hj : loB N sc j m = true) (hij : i ≠ j)
    (hg : glB sc x = true) (hm : X.mg x = some (.ref cS)) (hdb : (x == ("__debug__" : Str)) = false) (hd : (n == ("__debug__" : Str)) = false) (hcd : (n == ("__classdict__" : Str)) = false)
    (hs : swapsWith (.Name n p5) (some (.Name m p4)) p6.line X.env = pure false)
    (h : ∀ G1, Keep X.K G G1 → ∀ (pn : List (Addr × Obj)) (xe : Value → Shared → Prop), DX (X.tr pn xe) N sc k → Wish (X.tr pn xe) G1 (fun env' c s M' => i < env'.length ∧ PySem.W.exmOne X.K (.ref c) (.ref cS) = some true ∧ D.nx ((env'.set j (some (.exn (.ref c) s))).set i none) M') → SSs (X.tr pn xe) G1 body env M D) :
    SS X G (.Try body [.ExceptHandler (some (.Name x p1)) (some n) [.Assign [.Name m p4] (.Name n p5) p6] p2] [] [] p3) env M D := by
  obtain ⟨hi1, hi2⟩ := lo_of d hi
  obtain ⟨hj1, hj2⟩ := lo_of d hj
  exact ss_keep de.stk de.own d.ndX de.ex hi1 hj1 hi2 hj2 hi2 ⟨gl_of d.dn hg, hdb, .inl hm⟩ hij (.inl hi2) hd hcd hs fun G1 kG pn xe pw wi => h G1 kG pn xe (d.tr pw) wi
end Sy

set_option Elab.async false
set_option linter.all false
set_option maxRecDepth 100000
/-! S24: what is new in a store; tables of lists; range downwards; == of lists of ints. -/
namespace Sy
open PySem PySem.Spec PyProof.Rows L2
/-- what a call without the ink leaves: all that stood stands, C is new -/
structure Nx (M0 : Mem) (C : List (Addr × MO)) (M : Mem) : Prop where
  sub : Sub M0 M
  has : ∀ c, c ∈ C → M c.1 = some c.2 ∧ M0 c.1 = none
  nd : (C.map (·.1)).Nodup
section
variable {p u q : Addr} {n m : Nat} {M0 M M' : Mem} {C C2 : List (Addr × MO)} {o o' : MO}
theorem Nx.of : Nx M [] M := ⟨Sub.refl, (fun c hc => nomatch hc), List.nodup_nil⟩
theorem Nx.fresh (s : Nx M0 C M) (hu : M u = none) : M0 u = none ∧ ∀ c, c ∈ C → c.1 ≠ u := by
  refine ⟨s.sub.free hu, fun c hc z => ?_⟩
  have h := (s.has c hc).1
  rw [z, hu] at h
  cases h
theorem Nx.new (s : Nx M0 C M) (hu : M u = none) : Nx M0 ((u, o) :: C) (updM M u o) := by
  obtain ⟨e2, e3⟩ := s.fresh hu
  refine ⟨s.sub.trans (Sub.new hu), fun c hc => ?_, ?_⟩
  · rcases List.mem_cons.mp hc with rfl | z
    · exact ⟨updM_same, e2⟩
    · obtain ⟨a, b⟩ := s.has c z
      exact ⟨(updM_ne (e3 c z)).trans a, b⟩
  · rw [List.map_cons]
    refine List.nodup_cons.mpr ⟨fun hm => ?_, s.nd⟩
    obtain ⟨c, hc, ec⟩ := List.mem_map.mp hm
    exact e3 c hc ec
theorem Nx.gen (s : Nx M0 C M) (hu : M u = none) (e : updM M u o = M') : Nx M0 ((u, o) :: C) M' := e ▸ s.new hu
theorem Nx.up (s : Nx M0 C M) (k : Sub M M') : Nx M0 C M' := ⟨s.sub.trans k, fun c hc => ⟨k _ _ (s.has c hc).1, (s.has c hc).2⟩, s.nd⟩
theorem Nx.call (s : Nx M0 C M) (t : Nx M C2 M') : Nx M0 (C2 ++ C) M' := by
  refine ⟨s.sub.trans t.sub, fun c hc => ?_, ?_⟩
  · rcases List.mem_append.mp hc with z | z
    · obtain ⟨a, b⟩ := t.has c z
      exact ⟨a, s.sub.free b⟩
    · obtain ⟨a, b⟩ := s.has c z
      exact ⟨t.sub _ _ a, b⟩
  · rw [List.map_append]
    refine List.nodup_append.mpr ⟨t.nd, s.nd, fun a ha b hb e => ?_⟩
    obtain ⟨c, hc, ec⟩ := List.mem_map.mp ha
    obtain ⟨d, hd, ed⟩ := List.mem_map.mp hb
    have h1 := (t.has c hc).2
    have h2 := (s.has d hd).1
    rw [ed, ← e, ← ec, h1] at h2
    cases h2
/-- a call without the ink, where there is ink -/
theorem Sx.ncall (s : Sx p n M0 C M) (t : Nx M C2 M') : Sx p n M0 (C2 ++ C) M' :=
  s.call ⟨s.ink.sub t.sub, Grow.of t.sub, fun c hc => ⟨(t.has c hc).1, (fun z => s.ink.ne (by rw [← z]; exact (t.has c hc).2)), (t.has c hc).2⟩, t.nd⟩
theorem Nx.at (s : Nx M0 C M) (i : Nat) (h : C[i]? = some (q, o)) : M q = some o := (s.has _ (List.mem_of_getElem? h)).1
theorem Nx.old (s : Nx M0 C M) (h : M0 q = some o) : M q = some o := s.sub _ _ h
theorem Nx.drop (s : Nx M0 C M) (k : Nat) : Nx M0 (C.drop k) M := ⟨s.sub, fun c hc => s.has c (List.mem_of_mem_drop hc), by rw [List.map_drop]; exact s.nd.sublist (List.drop_sublist ..)⟩
theorem Nx.sl (s : Nx M0 C M) (h : C2.Sublist C) : Nx M0 C2 M := ⟨s.sub, fun c hc => s.has c (h.subset hc), s.nd.sublist (h.map _)⟩
theorem Nx.perm (s : Nx M0 C M) (h : C.Perm C2) : Nx M0 C2 M := ⟨s.sub, fun c hc => s.has c (h.mem_iff.mpr hc), (h.map _).nodup_iff.mp s.nd⟩
theorem Sx.sl (s : Sx p n M0 C M) (h : C2.Sublist C) : Sx p n M0 C2 M := ⟨s.ink, s.gr, fun c hc => s.has c (h.subset hc), s.nd.sublist (h.map _)⟩
theorem Sx.perm (s : Sx p n M0 C M) (h : C.Perm C2) : Sx p n M0 C2 M := ⟨s.ink, s.gr, fun c hc => s.has c (h.mem_iff.mpr hc), (h.map _).nodup_iff.mp s.nd⟩
theorem Nx.set (s : Nx M0 C M) (i : Nat) (h : C[i]? = some (q, o)) : Nx M0 (C.set i (q, o')) (updM M q o') := by
  have hm := s.has _ (List.mem_of_getElem? h)
  obtain ⟨hi, ei⟩ := List.getElem?_eq_some_iff.mp h
  have ne : ∀ a o, M0 a = some o → a ≠ q := fun a o e z => by rw [z, hm.2] at e; cases e
  refine ⟨fun a o e => by rw [updM_ne (ne a o e)]; exact s.sub a o e, fun c hc => ?_, ?_⟩
  · by_cases e : c.1 = q
    · obtain ⟨j, hj, ej⟩ := List.getElem_of_mem hc
      rw [List.length_set] at hj
      by_cases hij : i = j
      · subst hij
        rw [List.getElem_set_self] at ej
        rw [← ej]
        exact ⟨updM_same, hm.2⟩
      · rw [List.getElem_set_ne hij] at ej
        have z := s.nd
        have z1 : (C.map (·.1))[i]'(by simpa using hi) = (C.map (·.1))[j]'(by simpa using hj) := by
          rw [List.getElem_map, List.getElem_map, ei, ej]; exact e.symm
        exact absurd ((List.getElem_inj z).mp z1) hij
    · rcases List.mem_or_eq_of_mem_set hc with z | z
      · obtain ⟨a, b⟩ := s.has c z
        exact ⟨(updM_ne e).trans a, b⟩
      · rw [z] at e; exact absurd rfl e
  · rw [List.map_set]
    have z : (C.map (·.1)).set i q = C.map (·.1) := by
      apply List.ext_getElem?
      intro j
      rw [List.getElem?_set]
      by_cases hij : i = j
      · subst hij
        rw [if_pos rfl, List.length_map, if_pos hi, List.getElem?_map, h]; rfl
      · rw [if_neg hij]
    show ((C.map (·.1)).set i q).Nodup
    rw [z]
    exact s.nd
end
/-! ### tables: lists of lists of ints -/
def tabC (us : List Addr) (rows : List (List Int)) : List (Addr × MO) := List.zipWith (fun a r => (a, MO.lst (r.map S.int))) us rows
theorem tabC_snoc {us : List Addr} {rows : List (List Int)} {a : Addr} {r : List Int} (h : us.length = rows.length) : tabC (us ++ [a]) (rows ++ [r]) = tabC us rows ++ [(a, .lst (r.map S.int))] := by
  unfold tabC
  rw [List.zipWith_append h]
  rfl
theorem tabC_get {us : List Addr} {rows : List (List Int)} {i : Nat} {a : Addr} {r : List Int} (h1 : us[i]? = some a) (h2 : rows[i]? = some r) : (tabC us rows)[i]? = some (a, .lst (r.map S.int)) := by
  unfold tabC
  rw [List.getElem?_zipWith, h1, h2]
theorem tabC_len {us : List Addr} {rows : List (List Int)} (h : us.length = rows.length) : (tabC us rows).length = us.length := by unfold tabC; rw [List.length_zipWith]; omega
theorem tabC_set {us : List Addr} {rows : List (List Int)} {i : Nat} {a : Addr} {r : List Int} (h1 : us[i]? = some a) (h : us.length = rows.length) : (tabC us rows).set i (a, .lst (r.map S.int)) = tabC us (rows.set i r) := by
  apply List.ext_getElem?
  intro j
  rw [List.getElem?_set]
  unfold tabC
  rw [List.getElem?_zipWith, List.getElem?_zipWith, List.getElem?_set]
  have hi := (List.getElem?_eq_some_iff.mp h1).1
  by_cases hij : i = j
  · subst hij
    have hl : i < (List.zipWith (fun a r => (a, MO.lst (r.map S.int))) us rows).length := by rw [List.length_zipWith]; omega
    rw [if_pos rfl, if_pos rfl, if_pos hl, h1, if_pos (by omega)]
  · rw [if_neg hij, if_neg hij]
/-- the store entries of a table at u -/
def tabU (u : Addr) (us : List Addr) (rows : List (List Int)) : List (Addr × MO) := (u, .lst (us.map S.ptr)) :: tabC us rows
/-- a table stands at u -/
structure Tab (M : Mem) (u : Addr) (rows : List (List Int)) : Prop where
  ex : ∃ us : List Addr, us.length = rows.length ∧ M u = some (.lst (us.map S.ptr)) ∧ ∀ (i : Nat) (a : Addr) (r : List Int), us[i]? = some a → rows[i]? = some r → M a = some (.lst (r.map S.int))
theorem tab_of {M : Mem} {u : Addr} {us : List Addr} {rows : List (List Int)} (hl : us.length = rows.length) (h : ∀ c, c ∈ tabU u us rows → M c.1 = some c.2) : Tab M u rows := ⟨us, hl, h _ List.mem_cons_self, fun i a r h1 h2 => h (a, .lst (r.map S.int)) (List.mem_cons_of_mem _ (List.mem_of_getElem? (tabC_get h1 h2)))⟩
theorem Tab.sm {M : Mem} {u v : Addr} {rows : List (List Int)} (h1 : Tab M u rows) (h2 : Tab M v rows) (hl : rows.length ≤ 1000) (hr : ∀ r, r ∈ rows → r.length ≤ 1000) : Sm M 2 (.ptr u) (.ptr v) := by
  obtain ⟨us, l1, m1, g1⟩ := h1
  obtain ⟨vs, l2, m2, g2⟩ := h2
  refine .lst m1 m2 (by rw [List.length_map, List.length_map]; omega) (by rw [List.length_map]; omega) fun k x y hx hy => ?_
  rw [List.getElem?_map] at hx hy
  obtain ⟨a, ha, rfl⟩ := Option.map_eq_some_iff.mp hx
  obtain ⟨b, hb, rfl⟩ := Option.map_eq_some_iff.mp hy
  have hk := (List.getElem?_eq_some_iff.mp ha).1
  have hk2 : k < rows.length := by omega
  have er := List.getElem?_eq_getElem hk2
  refine .lst (g1 k a _ ha er) (g2 k b _ hb er) rfl (by rw [List.length_map]; exact hr _ (List.getElem_mem hk2)) fun j x y hx hy => ?_
  rw [hx] at hy
  cases hy
  rw [List.getElem?_map] at hx
  obtain ⟨i, _, rfl⟩ := Option.map_eq_some_iff.mp hx
  exact .int 0 i
section
variable {X : Cx} {G : Hp} {env : Ev} {M : Mem} {D : SD} {Q : QS} {a b c e o e1 e2 : Expr} {es : List Expr} {pos : Pos} {N : List Str} {sc : Scope} {k : Nat}
/-! ### range(n - 1, -1, -1) -/
/-- n - 1, .., 0 -/
def rgD (n : Nat) : List S := (List.range n).map fun (k : Nat) => S.int ((n : Int) - 1 - (k : Int))
theorem rgD_len {n : Nat} : (rgD n).length = n := by unfold rgD; simp
theorem rgD_get {n i : Nat} {s : S} (h : (rgD n)[i]? = some s) : i < n ∧ s = .int ((n : Int) - 1 - i) := by
  unfold rgD at h
  rw [List.getElem?_map] at h
  by_cases hi : i < n
  · rw [List.getElem?_range hi] at h
    exact ⟨hi, (Option.some.inj h).symm⟩
  · rw [List.getElem?_eq_none (by simpa using hi)] at h
    cases h
theorem si_rangeD {tg : Expr} {p : Pos} {Q : List S → (Mem → Prop) → Mem → Prop} (hg : Gl X "range") (hm : X.mg "range" = none) (h : SA X G [a, b, c] env M fun ss M1 => ∃ n : Nat, ss = [.int ((n : Int) - 1), .int (-1), .int (-1)] ∧ n ≤ 1000000 ∧ Q (rgD n) (fun _ => True) M1)
    (hs : starEach [a, b, c] X.env = (false, eval a X.env) :: starEach [b, c] X.env := by rfl) (hpl : (backTo pos (starEach [b, c] X.env)).any (·.1) = false := by rfl) : SI X G tg (.Call (.Name "range" p) [a, b, c] [] pos) env M Q := fun σ H R =>
  ⟨_, pi_range3 hg hm (pa_S (G := G)) hs hpl, tSA_go R h fun ss M1 vs H1 k1 rvs R1 ⟨n, e, b1, q⟩ => by
    subst e
    cases rvs with
    | cons r1 t =>
      cases r1
      obtain ⟨v, w, rfl, r2, r3⟩ := rvs2 t
      cases r2; cases r3
      have e62 : (2 : Int) ^ 62 = 4611686018427387904 := by decide
      have en : ((n : Int) - 1 - -1).toNat = n := by omega
      have rg := RgC.neg (i := (n : Int) - 1) (j := -1) (by omega) (by omega) (by omega) (by omega)
      rw [en] at rg
      refine ⟨_, _, _, n, rfl, rg, _, _, M1, k1, R1.mem, ⟨fun i M' H' m k' _ hi => ?_, fun i M' H' v H'' m k' _ hi ⟨e1, e2⟩ => ?_, fun M' H' m k' _ => ?_⟩, q⟩
      · rw [rgD_len] at hi; exact hi
      · rw [rgD_len] at hi
        subst e1 e2
        have ez : (n : Int) - 1 + (i : Int) * -1 = (n : Int) - 1 - i := by omega
        refine ⟨.int ((n : Int) - 1 - i), ?_, ?_, Keep.refl, m⟩
        · unfold rgD
          rw [List.getElem?_map, List.getElem?_range hi]
          rfl
        · rw [ez]; exact .int _
      · rw [rgD_len]; exact Nat.le_refl _⟩
/-! ### == of lists of ints -/
theorem dats_ints {M : Mem} : ∀ ns : List Int, Dats M (ns.map S.int) (ns.map PyData.int)
  | [] => .nil
  | n :: ns => .cons (.int n) (dats_ints ns)
theorem canLay_ints : ∀ ns : List Int, PyData.canLayAll0 (ns.map PyData.int) = true
  | [] => rfl
  | n :: ns => by
    show (true && PyData.canLayAll0 (ns.map PyData.int)) = true
    rw [canLay_ints ns]
    rfl
theorem depthAll_ints : ∀ ns : List Int, PyData.depthAll (ns.map PyData.int) ≤ 1
  | [] => by simp [PyData.depthAll]
  | n :: ns => by
    have ih := depthAll_ints ns
    simp only [List.map_cons, PyData.depthAll, PyData.depth]
    omega
theorem depth_ints (ns : List Int) : PyData.depth (.list (ns.map PyData.int)) ≤ 64 := by
  have h := depthAll_ints ns
  simp only [PyData.depth]
  omega
theorem shaped_ints (ns : List Int) : SeqAt.shaped (.list (ns.map PyData.int)) = true := by
  unfold SeqAt.shaped
  rw [show PyData.canLay0 (.list (ns.map PyData.int)) = true from canLay_ints ns, decide_eq_true (depth_ints ns)]
  rfl
theorem eqv_ints : ∀ ns ms : List Int, PyData.eqv (.list (ns.map PyData.int)) (.list (ms.map PyData.int)) = decide (ns = ms)
  | [], [] => rfl
  | [], _ :: _ => rfl
  | _ :: _, [] => rfl
  | n :: ns, m :: ms => by
    have ih : PyData.eqvAll (ns.map PyData.int) (ms.map PyData.int) = decide (ns = ms) := eqv_ints ns ms
    show ((n == m) && PyData.eqvAll (ns.map PyData.int) (ms.map PyData.int)) = _
    rw [ih]
    by_cases h : n = m
    · subst h; simp
    · simp [h]
theorem rc_eqIs {p r : Addr} {ns ms : List Int} (dn : DN X N sc k) (hp : M p = some (.lst (ns.map S.int))) (hr : M r = some (.lst (ms.map S.int))) (q : Q (.bl (decide (ns = ms))) M) : RC X .Eq (.ptr p) (.ptr r) M Q :=
  rc_eqD dn (.lst hp (dats_ints ns)) (.lst hr (dats_ints ms)) (shaped_ints ns) (shaped_ints ms) (by rw [eqv_ints]; exact q)
theorem rc_neIs {p r : Addr} {ns ms : List Int} (dn : DN X N sc k) (hp : M p = some (.lst (ns.map S.int))) (hr : M r = some (.lst (ms.map S.int))) (q : Q (.bl (!decide (ns = ms))) M) : RC X .NotEq (.ptr p) (.ptr r) M Q :=
  rc_neD dn (.lst hp (dats_ints ns)) (.lst hr (dats_ints ms)) (shaped_ints ns) (shaped_ints ms) (by rw [eqv_ints]; exact q)
end
end Sy

set_option Elab.async false
set_option linter.all false
set_option maxRecDepth 100000
/-! S25: comprehensions by place; comprehensions that make tables. -/
namespace Sy
open PySem PySem.Spec PyProof.Rows L2
section
variable {X : Cx} {G : Hp} {env : Ev} {M : Mem} {D : SD} {Q : QS} {pos : Pos} {N : List Str} {sc : Scope} {k : Nat}
/-- what the turns of a comprehension see -/
abbrev LcT (X : Cx) (G : Hp) (env : Ev) (N : List Str) (sc : Scope) (k : Nat) (scope : Scope) (elt : Expr) (i : Nat) (s : S) (M' : Mem) (Q : QS) : Prop :=
  ∀ (s0 : Shared) (H0 : Hp) (C0 : Addr) (cl0 : List (Str × Addr)) (fp0 : List Addr), DN (X.blk s0 H0 scope (compEnvC scope cl0 C0 X.env) fp0) N (blkS sc scope) k → SE (X.blk s0 H0 scope (compEnvC scope cl0 C0 X.env) fp0) G elt (env.set i (some s)) M' Q
abbrev LcR (X : Cx) (G : Hp) (env : Ev) (N : List Str) (sc : Scope) (k : Nat) (scope : Scope) (elt : Expr) (i : Nat) (Q : QS) (xs : List S) (Gd : Mem → Prop) (M : Mem) : Prop :=
  ∀ D, M D = none → ∃ I : Nat → List S → Mem → Prop, I 0 [] (updM M D (.lst [])) ∧ (∀ j acc M', M' D = some (.lst acc) → I j acc M' → Gd M') ∧
    (∀ j s acc M', xs[j]? = some s → M' D = some (.lst acc) → I j acc M' → LcT X G env N sc k scope elt i s M' (LcQ D acc (I (j + 1)))) ∧ ∀ acc M', M' D = some (.lst acc) → I xs.length acc M' → Q (.ptr D) M'
theorem lc_mapI {elt : Expr} {scope : Scope} {i : Nat} {xs : List S} {Gd : Mem → Prop} (f : Nat → S) (hl : xs.length ≤ 1000) (hg : ∀ M', Sub M M' → Gd M')
    (turn : ∀ j s M', xs[j]? = some s → Sub M M' → LcT X G env N sc k scope elt i s M' fun y M2 => y = f j ∧ Sub M' M2)
    (fin : ∀ D M', M D = none → Nx M [(D, .lst ((List.range xs.length).map f))] M' → Q (.ptr D) M') : LcR X G env N sc k scope elt i Q xs Gd M := by
  intro D hD
  have hz : (sizeLine : Nat) = 16777216 := sizeLine_eq
  refine ⟨fun j acc M' => acc = (List.range j).map f ∧ Nx M [(D, .lst acc)] M', ⟨rfl, Nx.of.new hD⟩, fun j acc M' _ ⟨_, e⟩ => hg M' e.sub, fun j s acc M' es eD ⟨ea, eM⟩ s0 H0 C0 cl0 fp0 dn => ?_, fun acc M' eD ⟨ea, eM⟩ => by subst ea; exact fin D M' hD eM⟩
  refine (turn j s M' es eM.sub s0 H0 C0 cl0 fp0 dn).mono fun y M2 z => ?_
  obtain ⟨e1, e2⟩ := z
  subst e1
  have hj : j < xs.length := (List.getElem?_eq_some_iff.mp es).1
  refine ⟨e2 _ _ eD, by rw [ea, List.length_map, List.length_range]; omega, ?_, ?_⟩
  · rw [ea, List.range_succ, List.map_append]; rfl
  · exact (eM.up e2).set 0 rfl
theorem lc_tab {elt : Expr} {scope : Scope} {i : Nat} {xs : List S} {Gd : Mem → Prop} (rows : List (List Int)) (hx : xs.length = rows.length) (hl : rows.length ≤ 1000) (hg : ∀ M', Sub M M' → Gd M')
    (turn : ∀ (j : Nat) (s : S) (r : List Int) (M' : Mem), xs[j]? = some s → rows[j]? = some r → Sub M M' → LcT X G env N sc k scope elt i s M' fun y M2 => ∃ a, y = .ptr a ∧ Nx M' [(a, .lst (r.map S.int))] M2)
    (fin : ∀ D us M', us.length = rows.length → Nx M (tabU D us rows) M' → Q (.ptr D) M') : LcR X G env N sc k scope elt i Q xs Gd M := by
  intro D hD
  have hz : (sizeLine : Nat) = 16777216 := sizeLine_eq
  refine ⟨fun j acc M' => j ≤ rows.length ∧ ∃ us : List Addr, us.length = j ∧ acc = us.map S.ptr ∧ Nx M (tabU D us (rows.take j)) M', ⟨Nat.zero_le _, [], rfl, rfl, Nx.of.new hD⟩, fun j acc M' _ ⟨_, us, _, _, e⟩ => hg M' e.sub, fun j s acc M' es eD ⟨hj', us, hu, ea, eM⟩ s0 H0 C0 cl0 fp0 dn => ?_, fun acc M' eD ⟨_, us, hu, ea, eM⟩ => ?_⟩
  · have hj : j < rows.length := by rw [← hx]; exact (List.getElem?_eq_some_iff.mp es).1
    have er : rows[j]? = some rows[j] := List.getElem?_eq_getElem hj
    refine (turn j s rows[j] M' es er eM.sub s0 H0 C0 cl0 fp0 dn).mono fun y M2 z => ?_
    obtain ⟨a, rfl, t⟩ := z
    have s2 := eM.call t
    refine ⟨s2.at 1 (by rw [ea]; rfl), by rw [ea, List.length_map]; omega, by omega, us ++ [a], by rw [List.length_append, hu]; rfl, by rw [ea, List.map_append]; rfl, ?_⟩
    have s3 := s2.set 1 rfl (o' := .lst ((us ++ [a]).map S.ptr))
    have e2 : us.map S.ptr ++ [S.ptr a] = (us ++ [a]).map S.ptr := by rw [List.map_append]; rfl
    rw [ea, e2]
    have et : rows.take (j + 1) = rows.take j ++ [rows[j]] := by rw [List.take_add_one, er]; rfl
    refine s3.perm ?_
    rw [et]
    unfold tabU
    rw [tabC_snoc (by rw [List.length_take, hu]; omega)]
    show List.Perm ((a, MO.lst (rows[j].map S.int)) :: (D, .lst ((us ++ [a]).map S.ptr)) :: tabC us (rows.take j)) _
    exact (List.Perm.swap _ _ _).trans (List.Perm.cons _ (List.perm_append_singleton _ _).symm)
  · rw [hx, List.take_length] at eM
    exact fin D us M' (by rw [hu, hx]) eM
theorem dx_lcR (d : DN X N sc k) (nd : N.Nodup) (i : Nat) {elt iter : Expr} {scope : Scope} {x : Str} {px : Pos} (hi : (decide (N[i]? = some x) && loS scope x && blkC N sc scope [(x, i)]) = true) (hs : ∀ x, foldedSetIterable iter X.env x = pure x)
    (h : SI X G (.Name x px) iter env M fun xs Gd M1 => LcR X G env N sc k scope elt i Q xs Gd M1) : SE X G (.ListComp elt [⟨.Name x px, iter, [], 0⟩] scope pos) env M Q := dx_lc d nd i hi hs h
theorem dx_setR (d : DX X N sc k) (jy : Nat) (i : Nat) {elt iter : Expr} {scope : Scope} {x y : Str} {px py spos : Pos} (hy : loB N sc jy y = true) (hi : (decide (N[i]? = some x) && loS scope x && blkC N sc scope [(x, i)]) = true) (hs : ∀ x, foldedSetIterable iter X.env x = pure x)
    (hl : (py.line == pos.line) = true) (hb : (scope.names.any fun (n, k) => n == y && (k == .local || k == .cell)) = false) (hk : sc.kind = .function)
    (h : SI X G (.Name x px) iter env M fun xs Gd M1 => LcR X G env N sc k scope elt i (fun s M' => D.nx (env.set jy (some s)) M') xs Gd M1) : SS X G (.Assign [.Name y py] (.ListComp elt [⟨.Name x px, iter, [], 0⟩] scope pos) spos) env M D := dx_setLc d jy i hy hi hs hl hb hk h
end
end Sy

set_option Elab.async false
set_option linter.all false
set_option maxRecDepth 100000
/-! S26: range(a, b) of ints of any size. -/
namespace Sy
open PySem PySem.Spec PyProof.Rows L2
theorem turn_long {P : Program} {w : World} {K : PySem.W.Frag} {tg : Expr} (it : Addr) (lo : Int) (n : Nat) : Turn P w K tg (Itr lo n) [it] it (fun i h => IsLongIter h it (lo + (i : Nat) * 1) ((n : Int) - (i : Nat)) 1) where
  mem := by simp
  obj := fun i h st b hb => by
    have e : b = it := by simpa using hb
    subst e
    exact ⟨_, st, fun v z => by
      have z' : Data.fields _ = Data.cell v := z
      cases z'⟩
  keep := fun i h h' st k => k it (by simp) _ st
  item := by
    intro X hP hw hK hc i pins s σ H E I hf st hg
    subst hP hw hK
    obtain ⟨f0, f1, f2, f3, f4, f5⟩ := hf it (by simp)
    have W := Walks.longrange (prog := X.prog) (w := X.w) (I.ok.hd hc) it lo 1 n
    refine W.item i s _ _ hg st fun v h' tk hv st' kk => ?_
    obtain ⟨t, rfl⟩ := hv
    have I1 : Inv X pins σ H { s with heap := h', toks := tk } := I.turned (fun b o hb e => kk b o (by simpa using hb) e) f0 f1 f3 f4 f5
    refine ⟨_, rfl, go_of (s := { s with heap := h', toks := tk }) (n := "longrange_iterator") st' rfl rfl (by decide) ⟨.int (lo + i), H, I1, ⟨t, ?_⟩, ⟨rfl, rfl⟩, st', fun b hb => (hf b hb).1⟩⟩
    rw [Int.mul_one]
  done := by
    intro X hP hw hK hc i pins s σ H E I hf st hg
    subst hP hw hK
    obtain ⟨f0, f1, f2, f3, f4, f5⟩ := hf it (by simp)
    exact wpAny_pyNext_long_end (I.ok.hd hc) st (by have : n ≤ i := hg; omega) fun h' eb => ⟨rfl, I.turned (t' := s.toks) (fun b o hb e => eb b o hb e) f0 f1 f3 f4 f5⟩
  self := fun _ _ _ _ _ st h => wpAny_pyIter_longiter st h
section
variable {X : Cx} {tg : Expr}
theorem range_itB {pins : List (Addr × Obj)} {σ : L2.St} {H : Hp} {s : Shared} {R : It → Hp → Prop} {E : Value → Shared → Prop} {lo hi : Int} {t u v : Tok} {tk : Nat} (I : Inv X pins σ H s)
    (q : R (Itr lo (hi - lo).toNat) H) : wpAny (model X.prog X.w) X.A (pyIter (.ref s.heap.objs.size)) (PIE X pins σ tg R) E { s with heap := s.heap.push { cls := .type "range", data := .fields #[.int lo t, .int hi u, .int 1 v] }, toks := tk } := by
  have I1 : Inv X pins σ H { s with heap := s.heap.push { cls := .type "range", data := .fields #[.int lo t, .int hi u, .int 1 v] }, toks := tk } := I.kept fun b o e => Heap.get?_push_of_some _ e
  have e1 : lo + ((0 : Nat) : Int) * 1 = lo := by simp
  have e2 : (((hi - lo).toNat : Nat) : Int) - ((0 : Nat) : Int) = Builtin.Range.rangeSize lo hi 1 := by rw [rangeSize_one]; split <;> omega
  have fin : ∀ b, b ∈ [(s.heap.push { cls := .type "range", data := .fields #[.int lo t, .int hi u, .int 1 v] }).objs.size] → FpOk X pins H b := fun b hb => by
    have e : b = (s.heap.push { cls := .type "range", data := .fields #[.int lo t, .int hi u, .int 1 v] }).objs.size := by simpa using hb
    subst e
    exact I1.fpOk (Nat.le_refl _) (I1.hok.fresh (Nat.le_refl _))
  by_cases hs : Builtin.Range.small lo hi 1 = true
  · refine wpAny_pyIter_range (IsRange.new ..) hs ?_
    refine ⟨(s.heap.push { cls := .type "range", data := .fields #[.int lo t, .int hi u, .int 1 v] }).objs.size, [(s.heap.push { cls := .type "range", data := .fields #[.int lo t, .int hi u, .int 1 v] }).objs.size], _, _, H, rfl,
      I1.kept (t' := tk) fun b o e => Heap.get?_push_of_some _ e, turn_range _ lo (hi - lo).toNat, ?_, fin, q⟩
    show IsRangeIter _ _ (lo + ((0 : Nat) : Int) * 1) ((((hi - lo).toNat : Nat) : Int) - ((0 : Nat) : Int)) 1
    rw [e1, e2]
    exact Heap.get?_push_size _ rfl
  · refine wpAny_pyIter_longrange (IsRange.new ..) (by simpa using hs) ?_
    refine ⟨(s.heap.push { cls := .type "range", data := .fields #[.int lo t, .int hi u, .int 1 v] }).objs.size, [(s.heap.push { cls := .type "range", data := .fields #[.int lo t, .int hi u, .int 1 v] }).objs.size], _, _, H, rfl,
      I1.kept (t' := tk) fun b o e => Heap.get?_push_of_some _ e, turn_long _ lo (hi - lo).toNat, ?_, fin, q⟩
    show IsLongIter _ _ (lo + ((0 : Nat) : Int) * 1) ((((hi - lo).toNat : Nat) : Int) - ((0 : Nat) : Int)) 1
    rw [e1, e2]
    exact Heap.get?_push_size _ rfl
def iRng2B (ta : TA) : TI := fun σ H R => ta σ H fun vs H1 => ∃ i j : Int, vs = [.int i, .int j] ∧ R (Itr i (j - i).toNat) H1
theorem pi_range2B {a b : Expr} {ta : TA} {p pos : Pos} (hg : Gl X "range") (hm : X.mg "range" = none) (ha : PA X [a, b] ta) (hs : starEach [a, b] X.env = [(false, eval a X.env), (false, eval b X.env)] := by rfl) (hs2 : starEach [b] X.env = [(false, eval b X.env)] := by rfl) :
    PI X tg (.Call (.Name "range" p) [a, b] [] pos) (iRng2B ta) := by
  refine ⟨fun pins s σ H R I h => ?_⟩
  refine Call_ (ld_blt I hg hm boot_range (PyProof.Rows.callWith_type1 (thn (ha.run pos pins s σ H _ I h) fun us s1 ⟨vs, H1, I1, r1, q1⟩ => ?_) (by rw [hs, hs2]) (by rw [hs2]; rfl)))
  obtain ⟨i, j, e, q⟩ := q1
  subst e
  cases r1 with
  | cons r rr =>
    cases rr with
    | cons r' rr =>
      cases rr
      obtain ⟨t, rfl⟩ := r
      obtain ⟨t', rfl⟩ := r'
      exact call_range_2 (range_itB I1 q)
end
theorem si_range2B {X : Cx} {G : Hp} {env : Ev} {M : Mem} {tg a b : Expr} {p pos : Pos} {Q : List S → (Mem → Prop) → Mem → Prop} (hg : Gl X "range") (hm : X.mg "range" = none) (h : SE X G a env M fun s M1 => SE X G b env M1 fun s2 M2 => ∃ (i : Int) (n : Nat), s = .int i ∧ s2 = .int (i + n) ∧ Q (rgS i n) (fun _ => True) M2)
    (hs : starEach [a, b] X.env = [(false, eval a X.env), (false, eval b X.env)] := by rfl) (hs2 : starEach [b] X.env = [(false, eval b X.env)] := by rfl) : SI X G tg (.Call (.Name "range" p) [a, b] [] pos) env M Q := fun σ H R =>
  ⟨_, pi_range2B hg hm (pa_cons (te := tS X G a) pe_S (pa_cons (te := tS X G b) pe_S pa_nil hs2) (by rw [hs, hs2])) hs hs2, tS_go R h fun s M1 v H1 k1 rv R1 q1 => tS_go R1 q1 fun s2 M2 v2 H2 k2 rv2 R2 ⟨i, n, e1, e2, q⟩ => by
    subst e1 e2
    cases rv
    cases rv2
    have e : (i + (n : Int) - i).toNat = n := by omega
    refine ⟨i, i + n, rfl, ?_⟩
    rw [e]
    exact ⟨_, _, M2, k1.trans k2, R2.mem, gives_rg, q⟩⟩
end Sy

set_option Elab.async false
set_option linter.all false
set_option maxRecDepth 100000
/-! S27: the end of a row by a promise that knows that no repr is under way. -/
namespace Sy
open PySem PySem.Spec PyProof.Rows L2
section
variable {P : Program} {w : World} {K : PySem.W.Frag} {mg mb : Str → Option Value} {k : Nat} {fa a : Addr} {fd : FuncData} {x : Str} {sp : Sp} {s1 : Shared} {vs : List Value} {ns : List Int}
/-- the script as an object of its own -/
abbrev scrO (vs : List Value) : Obj := { cls := .type "list", data := .seq vs.toArray }
theorem end_core (H : Hp) (KX : K.In s1.heap) (hns : s1.heap.Ns mainGlobals mg) (hb : s1.heap.Ns builtinsNs mb) (hbb : ∀ x : Str, x ≠ "__name__" → mb x = bootBuiltins x) (hlim : s1.heap.NoLimit) (hg : s1.gens = #[]) (ha : s1.heap.get? a = some (scrO vs)) (hr : Room k callerA)
    (F : ∀ base : Heap, K.In base → base.Ns mainGlobals mg → FnOk P w K mg base (L2.CX P w) k fa fd [x] sp) (bnd : ∀ (s : Shared) (u : Value), BindsTo s fd ⟨[u], []⟩ [(x, u)]) (only : Only H) (ok : HOk P w H s1.heap) (hA : ∀ b, H b ≠ none → b = a) (hK : H a ≠ none → K.lookup a = none)
    (hsp : sp [.ref a] H (fun v _ => v = .bl true) fun _ _ _ => False) : codeAny (model P w) callerA (.call (.ref fa) ⟨[.ref a], []⟩) (fun r s2 => r = .ok (.ret (.bool true)) ∧ OldK s1.heap s2.heap ∧ s2.os = s1.os ∧ AllBare s2.gens) s1 := by
  have none_of : ∀ {b : Addr}, b ≠ a → H b = none := fun {b} ne => Classical.byContradiction fun z => ne (hA b z)
  have low : ∀ {b : Addr} {o : Obj}, s1.heap.get? b = some o → H b = none → (hidT s1.heap H).get? b = some o := fun e z => hidT_get e z
  have dict_no : ∀ {b : Addr} {o : Obj} {es : Array DictEntry} {ep : Nat}, s1.heap.get? b = some o → o.data = .dict es ep → H b = none := by
    intro b o es ep e d
    refine none_of fun z => ?_
    rw [z, ha] at e
    cases e
    exact nomatch d
  have names : ∀ {b : Addr} {m : Str → Option Value}, s1.heap.Ns b m → (hidT s1.heap H).Ns b m := by
    rintro b m ⟨o, es, ep, e, d, r⟩
    exact ⟨o, es, ep, low e (dict_no e d), d, r⟩
  have inB : K.In (hidT s1.heap H) := fun b o e => low (KX b o e) (Classical.byContradiction fun z => by
    have eb := hA b z
    rw [eb] at e z
    exact absurd (hK z) (by rw [e]; exact fun q => nomatch q))
  obtain ⟨mc, lim1, lim2⟩ := hlim
  have md : Mod K mg (hidT s1.heap H) := ⟨inB, names hns, ⟨mb, names hb, hbb⟩, ⟨mc, names lim1, lim2⟩⟩
  have e0 : Env0 P w K mg (hidT s1.heap H) callerA [] s1 H := ⟨rfl, md, fun _ _ e => of_hidT e, Nat.le_of_eq (hidT_size _ _), True.intro, (fun _ z => nomatch z), ok, .of_eq hg⟩
  refine codeAny_mono ((F _ inB (names hns)).run callerA [] s1 H ⟨[.ref a], []⟩ [.ref a] [.ref a] _ _ hr rfl e0 (bnd s1 (.ref a)) (.cons rfl .nil) hsp) ?_
  intro r s2 z
  match r, z with
  | .error e, z =>
    obtain ⟨_, _, _, _, _, _, _, _, _, _, _, _, q⟩ := z
    exact q.elim
  | .ok .next, z => exact z.elim
  | .ok .brk, z => exact z.elim
  | .ok .cont, z => exact z.elim
  | .ok (.ret u), z =>
    obtain ⟨v, H2, os, bare, un, ok2, rv, q⟩ := z
    cases (show v = V.bl true from q)
    cases (show u = Value.bool true from rv)
    refine ⟨rfl, OldK.of_keep (fun b o e => ?_), os, bare⟩
    cases hb : H b with
    | none => exact un.keep b o e hb (fun z => nomatch z) (fun z => nomatch z)
    | some u =>
      rcases only b with z | ⟨ob, xs, z⟩
      · rw [z] at hb; cases hb
      · have f1 := (ok b _ z).1
        have f2 := (ok2 b _ (un.frzs b ob _ z)).1
        rw [e] at f1
        cases f1
        exact f2
theorem end_call (KX : K.In s1.heap) (hns : s1.heap.Ns mainGlobals mg) (hb : s1.heap.Ns builtinsNs mb) (hbb : ∀ x : Str, x ≠ "__name__" → mb x = bootBuiltins x) (hlim : s1.heap.NoLimit) (hg : s1.gens = #[]) (ha : s1.heap.get? a = some (scrO vs)) (hi : IntsAre vs ns) (hl : ns.length ≤ sizeLine) (hr : Room k callerA)
    (F : ∀ base : Heap, K.In base → base.Ns mainGlobals mg → FnOk P w K mg base (L2.CX P w) k fa fd [x] sp) (bnd : ∀ (s : Shared) (u : Value), BindsTo s fd ⟨[u], []⟩ [(x, u)])
    (hsp : ∀ H : Hp, Only H → SqL K H a (ns.map V.int) → sp [.ref a] H (fun v _ => v = .bl true) fun _ _ _ => False) : codeAny (model P w) callerA (.call (.ref fa) ⟨[.ref a], []⟩) (fun r s2 => r = .ok (.ret (.bool true)) ∧ OldK s1.heap s2.heap ∧ s2.os = s1.os ∧ AllBare s2.gens) s1 := by
  have rv := vals_ints hi
  cases own : K.lookup a with
  | some o =>
    have same := KX a o own
    rw [ha] at same
    cases same
    have on : Only (fun _ => none) := fun _ => .inl rfl
    have sq : SqL K (fun _ => none) a (ns.map V.int) := .inr ⟨_, vs.toArray, _, own, rfl, rfl, rfl, by rw [List.size_toArray, hi.length]; exact hl, by simpa using rv⟩
    exact end_core _ KX hns hb hbb hlim hg ha hr F bnd on (fun b u z => nomatch z) (fun b z => absurd rfl z) (fun z => absurd rfl z) (hsp _ on sq)
  | none =>
    let H : Hp := fun b => if b = a then some (.frz (scrO vs) (.lst (ns.map V.int))) else none
    have at_a : H a = some (.frz (scrO vs) (.lst (ns.map V.int))) := if_pos rfl
    have off : ∀ {b}, b ≠ a → H b = none := fun ne => if_neg ne
    have on : Only H := fun b => by
      by_cases e : b = a
      · subst e; exact .inr ⟨_, _, at_a⟩
      · exact .inl (off e)
    have ok : HOk P w H s1.heap := fun b u z => by
      by_cases e : b = a
      · subst e
        rw [at_a] at z
        cases z
        exact ⟨ha, by rw [List.length_map]; exact hl, vs, _, rv, ha⟩
      · rw [off e] at z; cases z
    exact end_core H KX hns hb hbb hlim hg ha hr F bnd on ok (fun b z => Classical.byContradiction fun ne => z (off ne)) (fun _ => own) (hsp H on (.inl (.inr ⟨_, at_a⟩)))
end
theorem walk_g {l : PySem.W.OpenLaw} {n k : Nat} {q : Program} {loose : List Str} {XP : (Str → Option Value) → Heap → Prop} {YP : World → Heap → Prop} {d : DefRec} {K : Params → PySem.W.Frag} {sp : World → Sp} {x : Str} (hn : l.most = some n) (hn2 : n ≤ sizeLine) (hdf : d.params.defaults = []) (hr : Room k callerA)
    (hY : ∀ (w : World) (h : Heap), YP w h → (K w.params).In h)
    (F : ∀ (w : World) (mg : Str → Option Value) (fa : Addr) (h : Heap), (K w.params).In h → h.Ns mainGlobals mg → mg d.name = some (.ref fa) → ∃ fd : FuncData, (∀ (s : Shared) (u : Value), BindsTo s fd ⟨[u], []⟩ [(x, u)]) ∧ ∀ base : Heap, (K w.params).In base → base.Ns mainGlobals mg → FnOk l.prog w (K w.params) mg base (L2.CX l.prog w) k fa fd [x] (sp w))
    (hsp : ∀ (w : World) (H : Hp) (a : Addr) (ns : List Int), ns.length ≤ n → (∀ z ∈ ns, Builtin.Int.intBits z ≤ 1048576) → Only H → SqL (K w.params) H a (ns.map V.int) → sp w [.ref a] H (fun v _ => v = .bl true) fun _ _ _ => False) :
    PySem.W.WalkO q loose XP YP l.row.toRowW d [] (fun f vs => PySem.call f vs) :=
  Att.attach_callB hn hdf fun w s₀ s₁ mg mb fa o pm cd doc a vs ns G Y _ _ _ hmg hobj hints hlen hbits hg => by
    have inK := hY w _ Y
    obtain ⟨fd, bnd, ok⟩ := F w mg fa _ inK G.T.g hmg
    exact end_call inK G.T.g G.T.b G.T.builtins G.T.nolimit hg hobj hints (Nat.le_trans hlen hn2) hr ok bnd fun H on sq => hsp w H a ns hlen hbits on sq
end Sy

set_option Elab.async false
set_option linter.all false
set_option maxRecDepth 100000
/-! S28: data of small size, told by repr; (*xs,). -/
namespace Sy
open PySem PySem.Spec PyProof.Rows L2
theorem call_reprD {X : Cx} (gd : X.A.guards = some []) (hu : X.A.units + 64 < cLine) : CallR X (.builtin "repr") (fun xs H Q => ∃ v d, xs = [v] ∧ Dp X.K H v d ∧ d.showable = true ∧ d.hasDict = false ∧ d.depth ≤ 60 ∧ d.shown.length ≤ sizeLine ∧ Q (.str d.shown) H) := by
  intro pins s σ H xs us Q I r h
  obtain ⟨v, d, rfl, hd, hs, hn, hdp, hl, q⟩ := h
  obtain ⟨u, rfl, ru⟩ := vals1 r
  have done : ∀ (t : Tok) (tk : Nat) (h' : Heap), (∀ b o, s.heap.get? b = some o → h'.get? b = some o) → EP X pins σ Q (.str d.shown t) { s with heap := h', toks := tk } := fun t tk h' hk => ⟨.str d.shown, H, I.kept (t' := tk) hk, ⟨t, rfl⟩, q⟩
  cases hd with
  | non => cases ru; exact P.repr_of_none (done _ _ _ fun _ _ e => e)
  | bl b => cases ru; exact P.repr_of_bool (done _ _ _ fun _ _ e => e)
  | int i =>
    obtain ⟨t, rfl⟩ := ru
    exact P.repr_of_int (by simpa [PyData.showable] using hs) (done _ _ _ fun _ _ e => e)
  | str x =>
    obtain ⟨t, rfl⟩ := ru
    exact P.repr_of_str (done _ _ _ fun _ _ e => e) hl
  | @lst a xs ds h1 h2 =>
    obtain ⟨as, rd⟩ := Dp.reads I _ _ u (.lst h1 h2) ru
    cases (show u = Value.ref a from ru)
    exact repr_of_reads' rd hs (PyData.noDict_hsm hn) gd (by omega) (fun _ _ e => e) (fun h' t tk hk => done t tk h' hk) hl
  | @tup a xs ds h1 h2 =>
    obtain ⟨as, rd⟩ := Dp.reads I _ _ u (.tup h1 h2) ru
    cases (show u = Value.ref a from ru)
    exact repr_of_reads' rd hs (PyData.noDict_hsm hn) gd (by omega) (fun _ _ e => e) (fun h' t tk hk => done t tk h' hk) hl
/-- as many items as a value of this depth may have -/
def Wd (n : Nat) : Nat := if n = 4 then 64 else 5
/-- data of depth n at most, its lists where A holds -/
inductive Da (M : Mem) (A : Addr → Prop) : Nat → S → PyData → Prop
  | non (n : Nat) : Da M A n .non .none
  | bl (n : Nat) (b : Bool) : Da M A n (.bl b) (.bool b)
  | int (n : Nat) (i : Int) (h : i.natAbs.log2 < 1920 ∧ (PyData.shown (.int i)).length ≤ 60) : Da M A n (.int i) (.int i)
  | str (n : Nat) (x : Str) (h : (reprText x).length ≤ 60) : Da M A n (.str x) (.str x)
  | tup {n : Nat} {xs : List S} {ds : List PyData} (hl : xs.length = ds.length) (hw : xs.length ≤ Wd (n + 1)) (h : ∀ (k : Nat) (x : S) (d : PyData), xs[k]? = some x → ds[k]? = some d → Da M A n x d) : Da M A (n + 1) (.tup xs) (.tuple ds)
  | lst {n : Nat} {p : Addr} {xs : List S} {ds : List PyData} (hA : A p) (hp : M p = some (.lst xs)) (hl : xs.length = ds.length) (hw : xs.length ≤ Wd (n + 1)) (h : ∀ (k : Nat) (x : S) (d : PyData), xs[k]? = some x → ds[k]? = some d → Da M A n x d) : Da M A (n + 1) (.ptr p) (.list ds)
section
variable {M M' : Mem} {A A' : Addr → Prop} {n : Nat} {s : S} {d : PyData}
theorem Da.frame (h : Da M A n s d) (k : ∀ p o, A p → M p = some o → M' p = some o) (e : ∀ p, A p → A' p) : Da M' A' n s d := by
  induction h with
  | non n => exact .non n
  | bl n b => exact .bl n b
  | int n i h => exact .int n i h
  | str n x h => exact .str n x h
  | tup hl hw _ ih => exact .tup hl hw ih
  | lst hA hp hl hw _ ih => exact .lst (e _ hA) (k _ _ hA hp) hl hw ih
theorem Da.sub (h : Da M A n s d) (k : Sub M M') : Da M' A n s d := h.frame (fun p o _ z => k p o z) fun _ z => z
theorem Da.any (h : Da M A n s d) : Da M (fun _ => True) n s d := h.frame (fun _ _ _ z => z) fun _ _ => True.intro
theorem dats_pw : ∀ {xs : List S} {ds : List PyData}, xs.length = ds.length → (∀ (k : Nat) (x : S) (d : PyData), xs[k]? = some x → ds[k]? = some d → Dat M x d) → Dats M xs ds
  | [], [], _, _ => .nil
  | [], _ :: _, h, _ => by simp at h
  | _ :: _, [], h, _ => by simp at h
  | x :: xs, d :: ds, hl, h => .cons (h 0 x d rfl rfl) (dats_pw (by simpa using hl) fun k x d a b => h (k + 1) x d a b)
theorem Da.dat (h : Da M A n s d) : Dat M s d := by
  induction h with
  | non n => exact .non
  | bl n b => exact .bl b
  | int n i h => exact .int i
  | str n x h => exact .str x
  | tup hl hw _ ih => exact .tup (dats_pw hl ih)
  | lst hA hp hl hw _ ih => exact .lst hp (dats_pw hl ih)
theorem Da.kn (h : Da M A n s d) : Kn M s := by
  induction h with
  | non n => exact .non
  | bl n b => exact .bl b
  | int n i h => exact .int i
  | str n x h => exact .str x
  | @tup n xs ds hl hw _ ih =>
    refine .tup fun x hx => ?_
    obtain ⟨k, hk⟩ := List.getElem?_of_mem hx
    have hk2 : k < ds.length := by have := (List.getElem?_eq_some_iff.mp hk).1; omega
    exact ih k x _ hk (List.getElem?_eq_getElem hk2)
  | lst hA hp hl hw _ ih => exact .ptr hp
theorem all_pw {f : PyData → Bool} {g : List PyData → Bool} (g0 : g [] = true) (g1 : ∀ x xs, g (x :: xs) = (f x && g xs)) : ∀ {ds : List PyData}, (∀ d, d ∈ ds → f d = true) → g ds = true
  | [], _ => g0
  | x :: xs, h => by rw [g1, h x List.mem_cons_self, all_pw g0 g1 fun d hd => h d (List.mem_cons_of_mem _ hd)]; rfl
theorem any_pw {f : PyData → Bool} {g : List PyData → Bool} (g0 : g [] = false) (g1 : ∀ x xs, g (x :: xs) = (f x || g xs)) : ∀ {ds : List PyData}, (∀ d, d ∈ ds → f d = false) → g ds = false
  | [], _ => g0
  | x :: xs, h => by rw [g1, h x List.mem_cons_self, any_pw g0 g1 fun d hd => h d (List.mem_cons_of_mem _ hd)]; rfl
theorem dall_pw {n : Nat} : ∀ {ds : List PyData}, (∀ d, d ∈ ds → d.depth ≤ n) → PyData.depthAll ds ≤ n
  | [], _ => by simp [PyData.depthAll]
  | x :: xs, h => by
    have h1 := h x List.mem_cons_self
    have h2 := dall_pw fun d hd => h d (List.mem_cons_of_mem _ hd)
    simp only [PyData.depthAll]
    omega
theorem sum_pw {m : Nat} : ∀ {ds : List PyData}, (∀ d, d ∈ ds → d.shown.length ≤ m) → ((PyData.shownAll ds).map (·.length)).sum + 2 * (PyData.shownAll ds).length ≤ ds.length * (m + 2)
  | [], _ => by simp [PyData.shownAll]
  | x :: xs, h => by
    have h1 := h x List.mem_cons_self
    have h2 := sum_pw fun d hd => h d (List.mem_cons_of_mem _ hd)
    simp only [PyData.shownAll, List.map_cons, List.sum_cons, List.length_cons, Nat.succ_mul]
    omega
/-- the most signs of a value of this depth -/
def Bd : Nat → Nat
  | 0 => 60
  | n + 1 => Wd (n + 1) * (Bd n + 2) + 3
theorem Bd_60 : ∀ n, 60 ≤ Bd n
  | 0 => Nat.le_refl _
  | n + 1 => by
    have h := Bd_60 n
    have w : 5 ≤ Wd (n + 1) := by unfold Wd; split <;> omega
    show 60 ≤ Wd (n + 1) * (Bd n + 2) + 3
    have : 5 * (Bd n + 2) ≤ Wd (n + 1) * (Bd n + 2) := Nat.mul_le_mul_right _ w
    omega
structure Fit (n : Nat) (d : PyData) : Prop where
  sh : d.showable = true
  hd : d.hasDict = false
  dp : d.depth ≤ n
  sz : d.shown.length ≤ Bd n
theorem mem_pw {xs : List S} {ds : List PyData} {Pr : PyData → Prop} (hl : xs.length = ds.length) (h : ∀ (k : Nat) (x : S) (d : PyData), xs[k]? = some x → ds[k]? = some d → Pr d) : ∀ d, d ∈ ds → Pr d := fun d hd => by
  obtain ⟨k, hk⟩ := List.getElem?_of_mem hd
  have hk2 : k < xs.length := by have := (List.getElem?_eq_some_iff.mp hk).1; omega
  exact h k _ d (List.getElem?_eq_getElem hk2) hk
theorem Da.fit (h : Da M A n s d) : Fit n d := by
  induction h with
  | non n => exact ⟨rfl, rfl, by simp [PyData.depth], Nat.le_trans (by decide) (Bd_60 n)⟩
  | bl n b => exact ⟨rfl, rfl, by simp [PyData.depth], Nat.le_trans (by cases b <;> decide) (Bd_60 n)⟩
  | int n i h => exact ⟨by simpa [PyData.showable] using h.1, rfl, by simp [PyData.depth], Nat.le_trans h.2 (Bd_60 n)⟩
  | str n x h => exact ⟨rfl, rfl, by simp [PyData.depth], Nat.le_trans h (Bd_60 n)⟩
  | @tup n xs ds hl hw _ ih =>
    have all := mem_pw (Pr := fun d => Fit n d) hl ih
    have s1 := sum_pw fun d hd => (all d hd).sz
    have s2 := tupleText_len_le (PyData.shownAll ds)
    have s3 : ds.length * (Bd n + 2) ≤ Wd (n + 1) * (Bd n + 2) := Nat.mul_le_mul_right _ (by omega)
    refine ⟨?_, ?_, ?_, ?_⟩
    · simp only [PyData.showable]; exact all_pw (f := PyData.showable) rfl (fun _ _ => rfl) fun d hd => (all d hd).sh
    · simp only [PyData.hasDict]; exact any_pw (f := PyData.hasDict) rfl (fun _ _ => rfl) fun d hd => (all d hd).hd
    · have := dall_pw fun d hd => (all d hd).dp
      simp only [PyData.depth]; omega
    · simp only [PyData.shown]
      show _ ≤ Wd (n + 1) * (Bd n + 2) + 3
      omega
  | @lst n p xs ds hA hp hl hw _ ih =>
    have all := mem_pw (Pr := fun d => Fit n d) hl ih
    have s1 := sum_pw fun d hd => (all d hd).sz
    have s2 := listText_len_le (PyData.shownAll ds)
    have s3 : ds.length * (Bd n + 2) ≤ Wd (n + 1) * (Bd n + 2) := Nat.mul_le_mul_right _ (by omega)
    refine ⟨?_, ?_, ?_, ?_⟩
    · simp only [PyData.showable]; exact all_pw (f := PyData.showable) rfl (fun _ _ => rfl) fun d hd => (all d hd).sh
    · simp only [PyData.hasDict]; exact any_pw (f := PyData.hasDict) rfl (fun _ _ => rfl) fun d hd => (all d hd).hd
    · have := dall_pw fun d hd => (all d hd).dp
      simp only [PyData.depth]; omega
    · simp only [PyData.shown]
      show _ ≤ Wd (n + 1) * (Bd n + 2) + 3
      omega
theorem Bd_mono : ∀ {n m : Nat}, n ≤ m → Bd n ≤ Bd m := by
  intro n m h
  induction h with
  | refl => exact Nat.le_refl _
  | @step m _ ih =>
    have w : 5 ≤ Wd (m + 1) := by unfold Wd; split <;> omega
    refine Nat.le_trans ih ?_
    show Bd m ≤ Wd (m + 1) * (Bd m + 2) + 3
    have : 5 * (Bd m + 2) ≤ Wd (m + 1) * (Bd m + 2) := Nat.mul_le_mul_right _ w
    omega
theorem Bd_6 : Bd 6 ≤ sizeLine := by rw [sizeLine_eq]; decide
theorem rb_repr {X : Cx} {Q : QS} {N : List Str} {sc : Scope} {k : Nat} (dn : DN X N sc k) (h : Da M A n s d) (hn : n ≤ 6) (q : Q (.str d.shown) M) : RB X (.builtin "repr") [s] M Q := fun vs H m r => by
  obtain ⟨v, rfl, r1⟩ := rvs1 r
  have f := h.fit
  exact ⟨_, call_reprD dn.gd dn.room.units, v, d, rfl, h.dat.dp m _ _ _ r1, f.sh, f.hd, by have := f.dp; omega, Nat.le_trans f.sz (Nat.le_trans (Bd_mono hn) Bd_6), pack (.str _) m q⟩
theorem dn_ints {ns : List Int} {n : Nat} (hl : ns.length ≤ Wd (n + 1)) (h : ∀ i, i ∈ ns → i.natAbs < 10 ^ 12) : Da M A (n + 1) (.tup (ns.map S.int)) (.tuple (ns.map PyData.int)) := by
  refine .tup (by simp) (by rw [List.length_map]; exact hl) fun k x d hx hd => ?_
  rw [List.getElem?_map] at hx hd
  obtain ⟨i, hi, rfl⟩ := Option.map_eq_some_iff.mp hx
  rw [hi] at hd
  cases hd
  have hb := h i (List.mem_of_getElem? hi)
  refine .int n i ⟨?_, Nat.le_trans (PyData.shown_int_le hb) (by decide)⟩
  have z : i.natAbs < 2 ^ 40 := Nat.lt_of_lt_of_le hb (by decide)
  have := PySem.Flt.log2_lt_of (by decide : 0 < 40) z
  omega
end
theorem bf_repr : bootBuiltins "repr" = some (.builtin "repr") := by decide +kernel
/-! ### (*xs,) -/
theorem sa_star {X : Cx} {G : Hp} {env : Ev} {M : Mem} {e : Expr} {es : List Expr} {p : Pos} {Q : List S → Mem → Prop} (h : SE X G e env M fun s M1 => ∃ xs, ItS M1 s xs ∧ SA X G es env M1 fun ys M2 => Q (xs ++ ys) M2) (hs : starEach (.Starred e p :: es) X.env = (true, eval e X.env) :: starEach es X.env := by rfl) : SA X G (.Starred e p :: es) env M Q := fun σ H R =>
  ⟨_, StX.pa_star (te := tS X G e) pe_S (pa_S (G := G)) hs, tS_go R h fun s M1 v H1 k1 rv R1 ⟨xs, it, q1⟩ => by
    obtain ⟨a, us, rfl, hq, ru⟩ := its_get (X := X) it R1.mem rv
    refine ⟨a, us, rfl, hq.symm, tSA_go R1 q1 fun ys M2 ws H2 k2 rws R2 q2 => ?_⟩
    exact ⟨xs ++ ys, M2, k1.trans k2, (ru.up k2).append rws, R2.mem, q2⟩⟩
theorem op_isBA {X : Cx} : OpR X (compareOp .Is) (fun x y H Q => ∃ b : Bool, y = .bl b ∧ Q (.bl (decide (x = .bl b))) H) := by
  intro pins s σ H x y v u Q I rx ry h
  obtain ⟨b, rfl, q⟩ := h
  cases ry
  have key : plainIs v (Value.bool b) = true → (v == Value.bool b) = decide (x = .bl b) → wpAny (model X.prog X.w) X.A (compareOp .Is v (Value.bool b)) (EP X pins σ Q) X.xe s := fun h1 h2 => wpAny_is_plain h1 (by rw [h2]; exact fin_bl I q rfl)
  cases x with
  | non => cases (show v = Value.none from rx); exact key rfl rfl
  | bl a =>
    cases (show v = Value.bool a from rx)
    refine key rfl ?_
    cases a <;> cases b <;> rfl
  | int i => obtain ⟨t, rfl⟩ := rx; exact key rfl rfl
  | str i => obtain ⟨t, rfl⟩ := rx; exact key rfl rfl
  | byt i => obtain ⟨t, rfl⟩ := rx; exact key rfl rfl
  | flt i => obtain ⟨t, rfl⟩ := rx; exact key rfl rfl
  | ref i => cases (show v = Value.ref i from rx); exact key rfl rfl
  | ty i => cases (show v = Value.type i from rx); exact key rfl rfl
def isBlS (b : Bool) : S → Bool
  | .bl a => a == b
  | _ => false
theorem rc_isA {X : Cx} {M : Mem} {Q : QS} {s : S} {b : Bool} (q : Q (.bl (isBlS b s)) M) : RC X .Is s (.bl b) M Q := fun v w H m r1 r2 => by
  cases r2
  refine ⟨_, op_isBA, b, rfl, ?_⟩
  have e : decide (v = .bl b) = isBlS b s := by
    cases r1 <;> first | rfl | skip
    rename_i a
    cases a <;> cases b <;> rfl
  rw [e]
  exact pack (.bl _) m q
end Sy

set_option Elab.async false
set_option linter.all false
set_option maxRecDepth 100000
/-! S29: comprehensions that build data anew. -/
namespace Sy
open PySem PySem.Spec PyProof.Rows L2
theorem lc_anew {X : Cx} {G : Hp} {env : Ev} {M : Mem} {Q : QS} {N : List Str} {sc : Scope} {k : Nat} {elt : Expr} {scope : Scope} {i : Nat} {xs : List S} {Gd : Mem → Prop} {n : Nat} {ds : List PyData} (hl : xs.length = ds.length) (hw : xs.length ≤ 1000) (hg : ∀ M', Sub M M' → Gd M')
    (turn : ∀ (j : Nat) (s : S) (d : PyData) (M' : Mem), xs[j]? = some s → ds[j]? = some d → Sub M M' → LcT X G env N sc k scope elt i s M' fun y M2 => ∃ A : Addr → Prop, Sub M' M2 ∧ (∀ p, A p → M' p = none) ∧ Da M2 A n y d)
    (fin : ∀ (D : Addr) (acc : List S) (M' : Mem) (A : Addr → Prop), M D = none → acc.length = ds.length → Sub M M' → (∀ p, A p → M p = none) → M' D = some (.lst acc) → (∀ (k : Nat) (x : S) (d : PyData), acc[k]? = some x → ds[k]? = some d → Da M' A n x d) → Q (.ptr D) M') : LcR X G env N sc k scope elt i Q xs Gd M := by
  intro D hD
  have hz : (sizeLine : Nat) = 16777216 := sizeLine_eq
  refine ⟨fun j acc M' => acc.length = j ∧ Sub M M' ∧ M' D = some (.lst acc) ∧ ∃ A : Addr → Prop, (∀ p, A p → M p = none ∧ p ≠ D) ∧ ∀ (k : Nat) (x : S) (d : PyData), acc[k]? = some x → ds[k]? = some d → Da M' A n x d, ⟨rfl, Sub.new hD, updM_same, fun _ => False, (fun p h => h.elim), fun k x d h => by simp at h⟩, fun j acc M' _ ⟨_, e, _⟩ => hg M' e, fun j s acc M' es eD ⟨ea, eM, _, A, hA, hd⟩ s0 H0 C0 cl0 fp0 dn => ?_, fun acc M' eD ⟨ea, eM, _, A, hA, hd⟩ => ?_⟩
  · have hj : j < xs.length := (List.getElem?_eq_some_iff.mp es).1
    have hj2 : j < ds.length := by omega
    have ed : ds[j]? = some ds[j] := List.getElem?_eq_getElem hj2
    refine (turn j s ds[j] M' es ed eM s0 H0 C0 cl0 fp0 dn).mono fun y M2 ⟨A', s2, hA', hy⟩ => ?_
    have ne : ∀ p, A' p → p ≠ D := fun p hp z => by
      have := hA' p hp
      rw [z, eD] at this
      cases this
    refine ⟨s2 _ _ eD, by omega, by rw [List.length_append, ea]; rfl, fun a o h => ?_, updM_same, fun p => A p ∨ A' p, fun p hp => ?_, fun m x d hx hd2 => ?_⟩
    · rw [updM_ne (neM h hD)]
      exact s2 _ _ (eM _ _ h)
    · rcases hp with hp | hp
      · exact hA p hp
      · exact ⟨eM.free (hA' p hp), ne p hp⟩
    · by_cases hm : m < acc.length
      · rw [List.getElem?_append_left hm] at hx
        refine (hd m x d hx hd2).frame (fun p o hp e => ?_) fun p hp => .inl hp
        rw [updM_ne (hA p hp).2]
        exact s2 _ _ e
      · have e1 : m = acc.length := by
          have := (List.getElem?_eq_some_iff.mp hx).1
          rw [List.length_append, List.length_singleton] at this
          omega
        subst e1
        rw [List.getElem?_append_right (Nat.le_refl _), Nat.sub_self] at hx
        have e2 : y = x := Option.some.inj hx
        rw [ea, ed] at hd2
        cases hd2
        subst e2
        refine hy.frame (fun p o hp e => ?_) fun p hp => .inr hp
        rw [updM_ne (ne p hp)]
        exact e
  · exact fin D acc M' A hD (by omega) eM (fun p hp => (hA p hp).1) eD hd
end Sy

set_option Elab.async false
set_option linter.all false
set_option maxRecDepth 100000
/-! S30: comprehensions with two for's. -/
namespace Sy
open PySem PySem.Spec PyProof.Rows L2
section
variable {X : Cx} {G : Hp} {env : Ev} {M : Mem} {D : SD} {Q : QS} {pos : Pos} {N : List Str} {sc : Scope} {k : Nat}
def SIb (X : Cx) (G : Hp) (scope : Scope) (tg it : Expr) (env : Ev) (M : Mem) (Q : List S → (Mem → Prop) → Mem → Prop) : Prop := ∀ (s : Shared) (H : Hp) (C : Addr) (cl : List (Str × Addr)) (fp : List Addr), SI (X.blk s H scope (compEnvC scope cl C X.env) fp) G tg it env M Q
def tSIb (X : Cx) (G : Hp) (scope : Scope) (tg it : Expr) : TI := fun σ H R => ∃ env M Q, Rel X.K G env M σ H ∧ SIb X G scope tg it env M Q ∧ ∀ J H', PostI X H Q J H' → R J H'
theorem pi_Sb {scope : Scope} {tg it : Expr} {s : Shared} {H : Hp} {C : Addr} {cl : List (Str × Addr)} {fp : List Addr} : PI (X.blk s H scope (compEnvC scope cl C X.env) fp) tg it (tSIb X G scope tg it) := ⟨fun pins s1 σ H1 R I h => by
  obtain ⟨env, M, Q, r, hs, k⟩ := h
  exact (pi_S (X := X.blk s H scope (compEnvC scope cl C X.env) fp) (G := G)).run pins s1 σ H1 R I ⟨env, M, Q, r, hs s H C cl fp, k⟩⟩
theorem se_lc2 {elt iter iter1 : Expr} {scope : Scope} {own : List (Str × Nat)} {i i1 : Nat} {x y : Str} {px py : Pos} (h : SI X G (.Name x px) iter env M fun xs Gd M1 => ∀ D, M1 D = none → ∃ I : Nat → List S → Mem → Prop, I 0 [] (updM M1 D (.lst [])) ∧ (∀ j acc M', M' D = some (.lst acc) → I j acc M' → Gd M') ∧
      (∀ j s acc M', xs[j]? = some s → M' D = some (.lst acc) → I j acc M' → SIb X G scope (.Name y py) iter1 ((wipeE env (own.map (·.2))).set i (some s)) M' fun ys Gd1 M2 => ∃ I1 : Nat → List S → Mem → Prop, (∃ acc2, M2 D = some (.lst acc2) ∧ I1 0 acc2 M2) ∧ (∀ n acc M', M' D = some (.lst acc) → I1 n acc M' → Gd1 M') ∧
        (∀ n t acc M', ys[n]? = some t → M' D = some (.lst acc) → I1 n acc M' → SEb X G scope elt (((wipeE env (own.map (·.2))).set i (some s)).set i1 (some t)) M' (LcQ D acc (I1 (n + 1)))) ∧ ∀ acc M', M' D = some (.lst acc) → I1 ys.length acc M' → I (j + 1) acc M') ∧ ∀ acc M', M' D = some (.lst acc) → I xs.length acc M' → Q (.ptr D) M')
    (hN : X.N.Nodup) (hi : X.N[i]? = some x) (hm : i ∈ own.map (·.2)) (hi1 : X.N[i1]? = some y) (hm1 : i1 ∈ own.map (·.2)) (ok : BlkOk X.N X.env.scope scope own) (hf : scope.names.lookup x = some .local) (hf1 : scope.names.lookup y = some .local) (hc : X.calm = true) (hs : ∀ x, foldedSetIterable iter X.env x = pure x) (hs1 : ∀ (env : Env) x, foldedSetIterable iter1 env x = pure x) :
    SE X G (.ListComp elt [⟨.Name x px, iter, [], 0⟩, ⟨.Name y py, iter1, [], 0⟩] scope pos) env M Q := fun σ H R => by
  refine ⟨_, pe_lc2 (own := own) (vs1 := [i1]) (tt := tYes) (tt1 := tYes) (te := tSEb X G scope elt) (g := gName i) (g1 := gName i1) (wi1 := tSIb X G scope (.Name y py) iter1) hc hN (pi_S (G := G)) ok (fun z hz => by rw [List.mem_singleton.mp hz]; exact hm1) (fun s H C cl fp => pg_name (X := X.blk s H scope (compEnvC scope cl C X.env) fp) hN hi (.inl (PySem.lookup_relabel_local hf)) (.inr (PySem.lookup_relabel_local hf))) (fun _ _ _ _ _ => pts_nil)
    (fun _ _ _ _ _ => pi_Sb) (fun s H C cl fp => pg_name (X := X.blk s H scope (compEnvC scope cl C X.env) fp) hN hi1 (.inl (PySem.lookup_relabel_local hf1)) (.inr (PySem.lookup_relabel_local hf1))) (fun _ _ _ _ _ => pts_nil) (fun _ _ _ _ _ => pe_Sb) hs hs1, env, M, _, R, h, fun J H1 ⟨xs, Gd, M1, k1, m1, gv, q⟩ D hD => ?_⟩
  obtain ⟨I, i0, ig, turn, fin⟩ := q D (m1.free hD)
  refine ⟨fun j m H' => m = xs.length - j ∧ j ≤ xs.length ∧ ∃ acc M', MemR X.K M' H' ∧ Keep X.K H1 H' ∧ M' D = some (.lst acc) ∧ I j acc M', ⟨xs.length, rfl, Nat.zero_le _, [], _, put_lst m1 hD .nil, keep_new hD, updM_same, i0⟩, ?_⟩
  rintro j m H' ⟨rfl, hj, acc, M', m', k', hMD, hI⟩
  by_cases hlt : j < xs.length
  · refine .inr ⟨gv.go j M' H' m' k' (ig _ _ _ hMD hI) hlt, fun H2 => ∃ acc M', MemR X.K M' H2 ∧ Keep X.K H1 H2 ∧ M' D = some (.lst acc) ∧ I (j + 1) acc M', fun H2 z => ⟨xs.length - (j + 1), by omega, rfl, hlt, z⟩, fun v H'' y0 => ?_⟩
    obtain ⟨s, es, rs, k2, m2⟩ := gv.yld j M' H' v H'' m' k' (ig _ _ _ hMD hI) hlt y0
    have kk := k1.trans (k'.trans k2)
    refine ⟨wipe_set hm, ?_⟩
    dsimp only [tYes]
    rw [if_pos rfl]
    have R2 := ((R.step kk m2).wipe (own.map (·.2))).set rs i
    refine ⟨_, M', _, R2, turn j s acc M' es hMD hI, ?_⟩
    rintro J1 H4 ⟨ys, Gd1, M2, k4, m4, gv1, I1, ⟨acc2, hD2, i10⟩, ig1, turn1, fin1⟩
    refine ⟨fun n m H' => m = ys.length - n ∧ n ≤ ys.length ∧ ∃ acc M', MemR X.K M' H' ∧ Keep X.K H4 H' ∧ M' D = some (.lst acc) ∧ I1 n acc M', ⟨ys.length, rfl, Nat.zero_le _, acc2, M2, m4, Keep.refl, hD2, i10⟩, ?_⟩
    rintro n m H5 ⟨rfl, hn, acc5, M5, m5, k5, hMD5, hI5⟩
    by_cases hlt1 : n < ys.length
    · refine .inr ⟨gv1.go n M5 H5 m5 k5 (ig1 _ _ _ hMD5 hI5) hlt1, fun H2 => ∃ acc M', MemR X.K M' H2 ∧ Keep X.K H4 H2 ∧ M' D = some (.lst acc) ∧ I1 (n + 1) acc M', fun H2 z => ⟨ys.length - (n + 1), by omega, rfl, hlt1, z⟩, fun w H6 y6 => ?_⟩
      obtain ⟨t, et, rt, k6, m6⟩ := gv1.yld n M5 H5 w H6 m5 k5 (ig1 _ _ _ hMD5 hI5) hlt1 y6
      refine ⟨wipe_set (List.mem_singleton.mpr rfl), ?_⟩
      rw [if_pos rfl]
      refine ⟨_, M5, _, ?_, turn1 n t acc5 M5 et hMD5 hI5, fun w2 H7 p => ?_⟩
      · have R3 := ((R2.step (k4.trans (k5.trans k6)) m6).wipe [i1]).set rt i1
        have e : (wipeE ((wipeE env (own.map (·.2))).set i (some s)) [i1]).set i1 (some t) = ((wipeE env (own.map (·.2))).set i (some s)).set i1 (some t) := List.set_set ..
        rw [e] at R3
        exact R3
      · obtain ⟨vs, a1, a2, acc', M3, a3, a4, a5, a6⟩ := lcq_ok (k5.trans k6) p
        exact ⟨vs, a1, a2, acc', M3, a3, a4, a5, a6⟩
    · have e : n = ys.length := by omega
      subst e
      exact .inl ⟨gv1.stop M5 H5 m5 k5 (ig1 _ _ _ hMD5 hI5), acc5, M5, m5, k'.trans (k2.trans (k4.trans k5)), hMD5, fin1 acc5 M5 hMD5 hI5⟩
  · have e : j = xs.length := by omega
    subst e
    exact .inl ⟨gv.stop M' H' m' k' (ig _ _ _ hMD hI), .ptr D, M', k1.trans k', .ptr D, m', fin acc M' hMD hI⟩
/-- [inner for x in xs for inner in g x]: the lists of g joined -/
theorem dx_flat (d : DN X N sc k) (nd : N.Nodup) (i i1 : Nat) {iter iter1 elt : Expr} {scope : Scope} {x y : Str} {px py : Pos} (hi : (decide (N[i]? = some x) && loS scope x && blkC N sc scope [(x, i), (y, i1)]) = true) (hi1 : (decide (N[i1]? = some y) && loS scope y) = true) (hs : ∀ x, foldedSetIterable iter X.env x = pure x) (hs1 : ∀ (env : Env) x, foldedSetIterable iter1 env x = pure x) (g : S → List S)
    (h : SI X G (.Name x px) iter env M fun xs Gd M1 => (xs.flatMap g).length ≤ 1000000 ∧ (∀ M', Sub M1 M' → Gd M') ∧
      (∀ (j : Nat) (s : S) (M' : Mem), xs[j]? = some s → Sub M1 M' → ∀ (s0 : Shared) (H0 : Hp) (C0 : Addr) (cl0 : List (Str × Addr)) (fp0 : List Addr), DN (X.blk s0 H0 scope (compEnvC scope cl0 C0 X.env) fp0) N (blkS sc scope) k → SI (X.blk s0 H0 scope (compEnvC scope cl0 C0 X.env) fp0) G (.Name y py) iter1 ((wipeE env [i, i1]).set i (some s)) M' fun ys Gd1 M2 => ys = g s ∧ Sub M' M2 ∧ (∀ M3, Sub M1 M3 → Gd1 M3) ∧
        ∀ (n : Nat) (t : S) (M3 : Mem), ys[n]? = some t → Sub M1 M3 → ∀ (s1 : Shared) (H1 : Hp) (C1 : Addr) (cl1 : List (Str × Addr)) (fp1 : List Addr), DN (X.blk s1 H1 scope (compEnvC scope cl1 C1 X.env) fp1) N (blkS sc scope) k → SE (X.blk s1 H1 scope (compEnvC scope cl1 C1 X.env) fp1) G elt (((wipeE env [i, i1]).set i (some s)).set i1 (some t)) M3 fun z M4 => z = t ∧ Sub M3 M4) ∧
      ∀ D M', M1 D = none → Nx M1 [(D, .lst (xs.flatMap g))] M' → Q (.ptr D) M') :
    SE X G (.ListComp elt [⟨.Name x px, iter, [], 0⟩, ⟨.Name y py, iter1, [], 0⟩] scope pos) env M Q := by
  simp only [Bool.and_eq_true, decide_eq_true_eq] at hi hi1
  obtain ⟨⟨h1, h2⟩, h3⟩ := hi
  obtain ⟨h4, h5⟩ := hi1
  have lo : ∀ {z : Str}, loS scope z = true → scope.names.lookup z = some .local := fun {z} h => by
    unfold loS at h
    split at h
    · assumption
    · cases h
  have hz : (sizeLine : Nat) = 16777216 := sizeLine_eq
  refine se_lc2 (own := [(x, i), (y, i1)]) (i := i) (i1 := i1) ?_ (by rw [d.hN]; exact nd) (by rw [d.hN]; exact h1) (by simp) (by rw [d.hN]; exact h4) (by simp) (by rw [d.hN, d.sc]; exact blkOk_by h3) (lo h2) (lo h5) d.calm hs hs1
  intro σ H R
  obtain ⟨wi, p1, q1⟩ := h σ H R
  refine ⟨_, pi_S (G := G), env, M, _, R, h, fun J H' ⟨xs, Gd, M1, k1, m1, g1, hlen, hgd, turn, fin⟩ => ⟨xs, Gd, M1, k1, m1, g1, fun D hD => ?_⟩⟩
  refine ⟨fun j acc M' => acc = (xs.take j).flatMap g ∧ Nx M1 [(D, .lst acc)] M', ⟨rfl, Nx.of.new hD⟩, fun j acc M' _ ⟨_, e⟩ => hgd _ e.sub, fun j s acc M' es eD ⟨ea, eM⟩ s0 H0 C0 cl0 fp0 => ?_, fun acc M' eD ⟨ea, eM⟩ => ?_⟩
  · intro σ1 H1 R1
    have t := turn j s M' es eM.sub s0 H0 C0 cl0 fp0 d.blk
    refine ⟨_, pi_S (G := G), _, M', _, R1, t, fun J1 H2 ⟨ys, Gd1, M2, k2, m2, g2, ey, s2, hg1, turn1⟩ => ⟨ys, Gd1, M2, k2, m2, g2, ?_⟩⟩
    refine ⟨fun n acc2 M3 => n ≤ ys.length ∧ acc2 = acc ++ ys.take n ∧ Nx M1 [(D, .lst acc2)] M3, ⟨acc, s2 _ _ eD, Nat.zero_le _, by rw [List.take_zero, List.append_nil], eM.up s2⟩, fun n acc2 M3 _ ⟨_, _, e⟩ => hg1 _ e.sub, fun n t acc2 M3 et eD3 ⟨hn, ea3, eM3⟩ s1 H3 C1 cl1 fp1 => ?_, fun acc2 M3 eD3 ⟨_, ea3, eM3⟩ => ⟨?_, eM3⟩⟩
    · refine (turn1 n t M3 et eM3.sub s1 H3 C1 cl1 fp1 d.blk).mono fun z M4 e => ?_
      obtain ⟨e1, e2⟩ := e
      subst e1
      have hn' : n < ys.length := (List.getElem?_eq_some_iff.mp et).1
      have ht : ys.take (n + 1) = ys.take n ++ [z] := by rw [List.take_add_one, et]; rfl
      refine ⟨e2 _ _ eD3, ?_, hn', by rw [ea3, ht, List.append_assoc], (eM3.up e2).set 0 rfl⟩
      have hj : j < xs.length := (List.getElem?_eq_some_iff.mp es).1
      have e3 : xs = xs.take j ++ s :: xs.drop (j + 1) := by
        have e5 : xs[j] = s := (List.getElem?_eq_some_iff.mp es).2
        rw [← e5, List.getElem_cons_drop hj, List.take_append_drop]
      have e4 : (xs.flatMap g).length = ((xs.take j).flatMap g).length + ((g s).length + ((xs.drop (j + 1)).flatMap g).length) := by
        conv => lhs; rw [e3]
        rw [List.flatMap_append, List.length_append, List.flatMap_cons, List.length_append]
      rw [ea3, List.length_append, ea, List.length_take, Nat.min_eq_left (by omega)]
      rw [ey] at hn'
      omega
    · rw [ea3, List.take_length, ea, ey, List.take_add_one, es, List.flatMap_append]
      simp
  · rw [List.take_length] at ea
    subst ea
    exact fin D M' hD eM
end
end Sy

set_option Elab.async false
set_option linter.all false
set_option maxRecDepth 100000
/-! S31: a, b, c = e1, e2, e3. -/
namespace Sy
open PySem PySem.Spec PyProof.Rows L2
section
variable {X : Cx} {G : Hp} {env : Ev} {M : Mem} {D : SD} {a b c : Expr} {pos : Pos} {N : List Str} {sc : Scope} {k : Nat}
theorem dx_par3 (d : DX X N sc k) (i j l : Nat) {x y z : Str} {px py pz pt : Pos} {kt k2 pt2} (hi : loB N sc i x = true) (hj : loB N sc j y = true) (hl : loB N sc l z = true) (hij : i ≠ j) (hil : i ≠ l) (hjl : j ≠ l) (hw : swappedStores [.Tuple [.Name x px, .Name y py, .Name z pz] kt pt] (.Tuple [a, b, c] k2 pt2) X.env = pure (some [x, y, z]))
    (hs : swapsWithSole [.Tuple [.Name x px, .Name y py, .Name z pz] kt pt] (.Tuple [a, b, c] k2 pt2) pos.line X.env = pure false) (h : SA X G [a, b, c] env M fun vs M' => ∃ u v w, vs = [u, v, w] ∧ D.nx (((env.set i (some u)).set j (some v)).set l (some w)) M') : SS X G (.Assign [.Tuple [.Name x px, .Name y py, .Name z pz] kt pt] (.Tuple [a, b, c] k2 pt2) pos) env M D := fun G1 kG σ H R =>
  ⟨_, ps_par3 d.calm d.ndX (lo_of d hi).1 (lo_of d hj).1 (lo_of d hl).1 hij hil hjl (lo_of d hi).2 (lo_of d hj).2 (lo_of d hl).2 pa_S hw hs, tSA_at kG R h fun ss M' vs H' k rvs R' ⟨u, v, w, e, q⟩ => by
    subst e
    cases rvs with
    | cons r1 t =>
      cases t with
      | cons r2 t =>
        cases t with
        | cons r3 t => cases t; exact ⟨_, _, _, rfl, _, M', ((R'.set r1 i).set r2 j).set r3 l, q⟩⟩
end
end Sy

set_option Elab.async false
set_option linter.all false
set_option maxRecDepth 100000
set_option maxHeartbeats 1000000
namespace Sy
open PySem PySem.Spec PyProof.Rows L2
local macro_rules | `(tactic| walk_at "nm") => `(tactic| ((with_reducible refine' dn_name ?d _ ?h ?he ?q); (case d => assumption); (case h => with_reducible assumption); (case he => rfl)))
local macro_rules | `(tactic| walk_at "cn") => `(tactic| first | with_reducible refine se_int ?_ | with_reducible refine se_bl ?_ | with_reducible refine se_non ?_ | with_reducible refine se_str ?_)
local macro_rules | `(tactic| walk_at "ct") => `(tactic| ((with_reducible refine' dn_callT ?d ?m ?v ?g ?n ?db ?st ?pl ?q); (case d => assumption); (case m => with_reducible assumption); (case v => first | with_reducible exact bt_int | with_reducible exact bt_tuple | with_reducible exact bt_list | with_reducible exact bt_str | with_reducible exact bt_bool); (case g => with_reducible assumption); (case n => decide); (case db => decide); (case st => rfl); (case pl => rfl)))
local macro_rules | `(tactic| walk_at "cb") => `(tactic| ((with_reducible refine' dn_callB ?d ?m ?v ?g ?n ?db ?st ?pl ?q); (case d => assumption); (case m => with_reducible assumption); (case v => first | with_reducible exact bf_len | with_reducible exact bf_isinstance | with_reducible exact bf_all | with_reducible exact bf_max | with_reducible exact bf_min | with_reducible exact bf_abs | with_reducible exact bf_sum | with_reducible exact bf_any | with_reducible exact bf_repr); (case g => with_reducible assumption); (case n => decide); (case db => decide); (case st => rfl); (case pl => rfl)))
local macro_rules | `(tactic| walk_at "cf") => `(tactic| ((with_reducible refine' dn_call ?d ?F ?g ?k ?db ?st ?pl ?q); (case d => assumption); (case F => with_reducible assumption); (case g => with_reducible assumption); (case k => decide); (case db => decide); (case st => rfl); (case pl => rfl)))
local macro_rules | `(tactic| walk_at "tv") => `(tactic| ((with_reducible refine' dn_ty ?d ?m ?v ?g ?n ?db ?q); (case d => assumption); (case m => with_reducible assumption); (case v => first | with_reducible exact bt_int | with_reducible exact bt_tuple | with_reducible exact bt_list | with_reducible exact bt_str | with_reducible exact bt_bool); (case g => with_reducible assumption); (case n => decide); (case db => decide)))
local macro_rules | `(tactic| walk_at "ck") => `(tactic| ((with_reducible refine' dn_kw ?d ?F ?g ?k ?db ?a ?ks ?pl ?q); (case d => assumption); (case F => with_reducible assumption); (case g => with_reducible assumption); (case k => decide); (case db => decide); (case a => rfl); (case ks => rfl); (case pl => rfl)))
local macro_rules | `(tactic| walk_at "e") => `(tactic| first | walk_at "nm" | walk_at "cn" | with_reducible refine se_bin ?_ | ((with_reducible refine' se_cmp ?q ?st); (case st => first | exact nomark _ | rfl)) | ((with_reducible refine' se_ix ?q ?st); (case st => exact fun _ _ => rfl)) | with_reducible refine sa_nil ?_ | ((with_reducible refine' sa_cons ?q ?st); (case st => rfl)) | walk_at "cf" | walk_at "ck" | with_reducible refine sk_nil ?_ | with_reducible refine sk_cons ?_ | walk_at "cb" | walk_at "ct" | walk_at "tv" | with_reducible refine se_one ?_ | ((with_reducible refine' se_chain ?q ?st); (case st => with_unfolding_all rfl)) | with_reducible refine se_tup ?_ | with_reducible refine se_lst ?_ | with_reducible refine se_and ?_ | with_reducible refine se_or ?_ | with_reducible refine se_not ?_ | with_reducible refine se_un ?_ )
local macro_rules | `(tactic| walk_at "v") => `(tactic| first | with_reducible refine ro_addI ?_ | with_reducible refine rc_isIB ?_ | with_reducible refine rc_eqB ?_ | with_reducible refine rc_neB ?_ | with_reducible refine rc_isN ?_ | with_reducible refine rc_notN ?_ | with_reducible refine ro_subI ?_ | with_reducible refine rc_eqI ?_ | with_reducible refine rc_neI ?_ | with_reducible refine rc_ltI ?_ | with_reducible refine rc_leI ?_ | with_reducible refine rc_gtI ?_ | with_reducible refine rc_geI ?_ | with_reducible refine rb_intI ?_ | with_reducible refine ru_neg ?_ | with_reducible refine rb_tupleT ?_ | ((with_reducible refine rb_isInt ?h ?q); (case h => assumption)) | ((with_reducible refine rb_isBool ?h ?q); (case h => assumption)) | ((with_reducible refine rb_isTup ?h ?q); (case h => assumption)) | with_reducible refine rb_len its_tup ?_ | (refine rx_tup (by rfl) ?_) | ((with_reducible refine' rx_lst ?h ?a ?q); (case h => with_reducible assumption); (case a => rfl)))
local macro_rules | `(tactic| walk_at "ss") => `(tactic| first | with_reducible refine ss_ret (se_fg ?_) | with_reducible refine ss_if ?_ | ((with_reducible refine' ss_expr ?q ?st); (case st => rfl)) | ((with_reducible refine' dx_set ?d _ ?h ?hs ?q); (case d => assumption); (case h => with_reducible assumption); (case hs => rfl)) | ((with_reducible refine' ss_asg (tg := .Tuple _ _ _) ?q ?hs ?hw ?h1); (case hs => rfl); (case hw => rfl); (case h1 => rfl)))
local macro_rules | `(tactic| walk_at "s") => `(tactic| first | with_reducible refine sb_one ?_ | with_reducible refine sb_cons ?_ | walk_at "ss")
local macro_rules | `(tactic| walk_at "t") => `(tactic| first | with_reducible refine st_not ?_ | ((with_reducible refine' st_cmp ?q ?st); (case st => first | exact nomark _ | rfl)) | with_reducible refine sw_and1 ?_ | with_reducible refine sw_or1 ?_ | with_reducible refine sw_or ?_ | with_reducible refine sw_and ?_ | ((with_reducible refine' st_chain ?q ?st); (case st => with_unfolding_all rfl)) | (refine st_of ?_; first | with_reducible refine sw_or ?_ | with_reducible refine sw_and ?_) | ((with_reducible refine' st_val ?q ?st); (case st => intro _; rfl)))
local macro_rules | `(tactic| walk_at "go") => `(tactic| repeat (first | walk_at "e" | walk_at "v" | walk_at "s" | walk_at "t"))
local macro_rules | `(tactic| walk_at "gt") => `(tactic| repeat (first | walk_at "e" | walk_at "v" | walk_at "ss" | walk_at "t"))
local macro_rules | `(tactic| walk_at "gx") => `(tactic| repeat (first | walk_at "e" | walk_at "v" | walk_at "ss" | walk_at "t" | refine ⟨by simp only [List.length_cons, List.length_nil]; decide, ?_⟩))
local macro_rules | `(tactic| walk_at "tg") => `(tactic| repeat (first | ((with_reducible refine' sg_tup ?q ?hc ?hn ?st); (case hc => exact DX.calm (by assumption)); (case hn => rfl); (case st => rfl)) | (refine sgs_cons ?_) | with_reducible refine sgs_nil ?_ | ((refine dx_tgt (by assumption) _ (by with_reducible assumption) ?_))))
def topS (i : Nat) : Stmt := PySem.Challenge.pw_everydepth_k02_sheets_by_their_blocks.main.body.getD i (.Pass ⟨0, 0, 0, 0⟩)
abbrev s_anew : Stmt := topS 4
abbrev s_sheet : Stmt := topS 15
abbrev s_shade_rows : Stmt := topS 16
abbrev s_unfolded : Stmt := topS 17
abbrev s_first_sheets : Stmt := topS 27
abbrev s_next_sheets : Stmt := topS 28
abbrev s_sheet_right : Stmt := topS 29
abbrev s_inner_right : Stmt := topS 32
abbrev s_is_int : Stmt := topS 11
abbrev s_is_shelf : Stmt := topS 7
abbrev s_are_shades : Stmt := topS 8
abbrev s_are_blocks : Stmt := topS 9
abbrev s_is_picture : Stmt := topS 10
abbrev s_check_picture : Stmt := topS 12
abbrev s_check_depth : Stmt := topS 13
abbrev s_ink : Stmt := topS 19
abbrev s_drip : Stmt := topS 20
abbrev s_same : Stmt := topS 21
abbrev s_order : Stmt := topS 22
abbrev s_shades : Stmt := topS 23
abbrev s_block : Stmt := topS 24
abbrev s_book : Stmt := topS 25
abbrev s_renamed : Stmt := topS 26
abbrev s_caught : Stmt := topS 30
abbrev s_refused : Stmt := topS 31
abbrev s_right : Stmt := topS 33
abbrev s_law : Stmt := topS 34
/-- the names of built-ins are not the module's -/
structure Txt (mg : Str → Option Value) : Prop where
  len : mg "len" = none
  isinstance : mg "isinstance" = none
  all : mg "all" = none
  int : mg "int" = none
  bool : mg "bool" = none
  tuple : mg "tuple" = none
  list : mg "list" = none
  sum : mg "sum" = none
  max : mg "max" = none
  min : mg "min" = none
  abs : mg "abs" = none
  range : mg "range" = none
  zip : mg "zip" = none
  repr : mg "repr" = none
  any : mg "any" = none
  sorted : mg "sorted" = none
  str : mg "str" = none
/-! ### books -/
abbrev Blk := List (List Int)
def rowT (r : List Int) : S := .tup (r.map S.int)
def blkT (B : Blk) : S := .tup (B.map rowT)
def bookT (b : Int) (sh : List Int) (bl : List Blk) : S := .tup [.int b, .tup (sh.map S.int), .tup (bl.map blkT)]
structure BookOk (b : Int) (sh : List Int) (bl : List Blk) : Prop where
  b0 : 2 ≤ b
  b1 : b ≤ 4
  l0 : 1 ≤ sh.length
  l1 : sh.length ≤ 64
  lb : bl.length = sh.length
  hs : ∀ s, s ∈ sh → 0 ≤ s ∧ s ≤ 3
  hb : ∀ B, B ∈ bl → (B.length : Int) = b ∧ ∀ r, r ∈ B → (r.length : Int) = b ∧ ∀ l, l ∈ r → 0 ≤ l ∧ l < sh.length
def picT (b : Int) (sh : List Int) (bl : List Blk) (l : Int) : S := .tup [bookT b sh bl, .int l]
structure PicOk (b : Int) (sh : List Int) (bl : List Blk) (l : Int) : Prop where
  ok : BookOk b sh bl
  l0 : 0 ≤ l
  l1 : l < sh.length
theorem Kn.ints (M : Mem) (ns : List Int) : Kn M (.tup (ns.map S.int)) := .tup fun s hs => by
  obtain ⟨n, _, rfl⟩ := List.mem_map.mp hs
  exact .int n
theorem Kn.blk (M : Mem) (B : Blk) : Kn M (blkT B) := .tup fun s hs => by
  obtain ⟨r, _, rfl⟩ := List.mem_map.mp hs
  exact Kn.ints M r
theorem Kn.blks (M : Mem) (bl : List Blk) : Kn M (.tup (bl.map blkT)) := .tup fun s hs => by
  obtain ⟨B, _, rfl⟩ := List.mem_map.mp hs
  exact Kn.blk M B
theorem Kn.book (M : Mem) (b : Int) (sh : List Int) (bl : List Blk) : Kn M (bookT b sh bl) := .tup fun s hs => by
  simp only [List.mem_cons, List.not_mem_nil, or_false] at hs
  rcases hs with rfl | rfl | rfl
  · exact .int b
  · exact Kn.ints M sh
  · exact Kn.blks M bl
theorem Kn.pic (M : Mem) (b : Int) (sh : List Int) (bl : List Blk) (l : Int) : Kn M (picT b sh bl l) := .tup fun s hs => by
  simp only [List.mem_cons, List.not_mem_nil, or_false] at hs
  rcases hs with rfl | rfl
  · exact Kn.book M b sh bl
  · exact .int l

end Sy

set_option Elab.async false
set_option linter.all false
set_option maxRecDepth 100000
set_option maxHeartbeats 1000000
namespace Sy
open PySem PySem.Spec PyProof.Rows L2
local macro_rules | `(tactic| walk_at "nm") => `(tactic| ((with_reducible refine' dn_name ?d _ ?h ?he ?q); (case d => assumption); (case h => with_reducible assumption); (case he => rfl)))
local macro_rules | `(tactic| walk_at "cn") => `(tactic| first | with_reducible refine se_int ?_ | with_reducible refine se_bl ?_ | with_reducible refine se_non ?_ | with_reducible refine se_str ?_)
local macro_rules | `(tactic| walk_at "ct") => `(tactic| ((with_reducible refine' dn_callT ?d ?m ?v ?g ?n ?db ?st ?pl ?q); (case d => assumption); (case m => with_reducible assumption); (case v => first | with_reducible exact bt_int | with_reducible exact bt_tuple | with_reducible exact bt_list | with_reducible exact bt_str | with_reducible exact bt_bool); (case g => with_reducible assumption); (case n => decide); (case db => decide); (case st => rfl); (case pl => rfl)))
local macro_rules | `(tactic| walk_at "cb") => `(tactic| ((with_reducible refine' dn_callB ?d ?m ?v ?g ?n ?db ?st ?pl ?q); (case d => assumption); (case m => with_reducible assumption); (case v => first | with_reducible exact bf_len | with_reducible exact bf_isinstance | with_reducible exact bf_all | with_reducible exact bf_max | with_reducible exact bf_min | with_reducible exact bf_abs | with_reducible exact bf_sum | with_reducible exact bf_any | with_reducible exact bf_repr); (case g => with_reducible assumption); (case n => decide); (case db => decide); (case st => rfl); (case pl => rfl)))
local macro_rules | `(tactic| walk_at "cf") => `(tactic| ((with_reducible refine' dn_call ?d ?F ?g ?k ?db ?st ?pl ?q); (case d => assumption); (case F => with_reducible assumption); (case g => with_reducible assumption); (case k => decide); (case db => decide); (case st => rfl); (case pl => rfl)))
local macro_rules | `(tactic| walk_at "tv") => `(tactic| ((with_reducible refine' dn_ty ?d ?m ?v ?g ?n ?db ?q); (case d => assumption); (case m => with_reducible assumption); (case v => first | with_reducible exact bt_int | with_reducible exact bt_tuple | with_reducible exact bt_list | with_reducible exact bt_str | with_reducible exact bt_bool); (case g => with_reducible assumption); (case n => decide); (case db => decide)))
local macro_rules | `(tactic| walk_at "ck") => `(tactic| ((with_reducible refine' dn_kw ?d ?F ?g ?k ?db ?a ?ks ?pl ?q); (case d => assumption); (case F => with_reducible assumption); (case g => with_reducible assumption); (case k => decide); (case db => decide); (case a => rfl); (case ks => rfl); (case pl => rfl)))
local macro_rules | `(tactic| walk_at "e") => `(tactic| first | walk_at "nm" | walk_at "cn" | with_reducible refine se_bin ?_ | ((with_reducible refine' se_cmp ?q ?st); (case st => first | exact nomark _ | rfl)) | ((with_reducible refine' se_ix ?q ?st); (case st => exact fun _ _ => rfl)) | with_reducible refine sa_nil ?_ | ((with_reducible refine' sa_cons ?q ?st); (case st => rfl)) | walk_at "cf" | walk_at "ck" | with_reducible refine sk_nil ?_ | with_reducible refine sk_cons ?_ | walk_at "cb" | walk_at "ct" | walk_at "tv" | with_reducible refine se_one ?_ | ((with_reducible refine' se_chain ?q ?st); (case st => with_unfolding_all rfl)) | with_reducible refine se_tup ?_ | with_reducible refine se_lst ?_ | with_reducible refine se_and ?_ | with_reducible refine se_or ?_ | with_reducible refine se_not ?_ | with_reducible refine se_un ?_ )
local macro_rules | `(tactic| walk_at "v") => `(tactic| first | with_reducible refine ro_addI ?_ | with_reducible refine rc_isIB ?_ | with_reducible refine rc_eqB ?_ | with_reducible refine rc_neB ?_ | with_reducible refine rc_isN ?_ | with_reducible refine rc_notN ?_ | with_reducible refine ro_subI ?_ | with_reducible refine rc_eqI ?_ | with_reducible refine rc_neI ?_ | with_reducible refine rc_ltI ?_ | with_reducible refine rc_leI ?_ | with_reducible refine rc_gtI ?_ | with_reducible refine rc_geI ?_ | with_reducible refine rb_intI ?_ | with_reducible refine ru_neg ?_ | with_reducible refine rb_tupleT ?_ | ((with_reducible refine rb_isInt ?h ?q); (case h => assumption)) | ((with_reducible refine rb_isBool ?h ?q); (case h => assumption)) | ((with_reducible refine rb_isTup ?h ?q); (case h => assumption)) | with_reducible refine rb_len its_tup ?_ | (refine rx_tup (by rfl) ?_) | ((with_reducible refine' rx_lst ?h ?a ?q); (case h => with_reducible assumption); (case a => rfl)))
local macro_rules | `(tactic| walk_at "ss") => `(tactic| first | with_reducible refine ss_ret (se_fg ?_) | with_reducible refine ss_if ?_ | ((with_reducible refine' ss_expr ?q ?st); (case st => rfl)) | ((with_reducible refine' dx_set ?d _ ?h ?hs ?q); (case d => assumption); (case h => with_reducible assumption); (case hs => rfl)) | ((with_reducible refine' ss_asg (tg := .Tuple _ _ _) ?q ?hs ?hw ?h1); (case hs => rfl); (case hw => rfl); (case h1 => rfl)))
local macro_rules | `(tactic| walk_at "s") => `(tactic| first | with_reducible refine sb_one ?_ | with_reducible refine sb_cons ?_ | walk_at "ss")
local macro_rules | `(tactic| walk_at "t") => `(tactic| first | with_reducible refine st_not ?_ | ((with_reducible refine' st_cmp ?q ?st); (case st => first | exact nomark _ | rfl)) | with_reducible refine sw_and1 ?_ | with_reducible refine sw_or1 ?_ | with_reducible refine sw_or ?_ | with_reducible refine sw_and ?_ | ((with_reducible refine' st_chain ?q ?st); (case st => with_unfolding_all rfl)) | (refine st_of ?_; first | with_reducible refine sw_or ?_ | with_reducible refine sw_and ?_) | ((with_reducible refine' st_val ?q ?st); (case st => intro _; rfl)))
local macro_rules | `(tactic| walk_at "go") => `(tactic| repeat (first | walk_at "e" | walk_at "v" | walk_at "s" | walk_at "t"))
local macro_rules | `(tactic| walk_at "gt") => `(tactic| repeat (first | walk_at "e" | walk_at "v" | walk_at "ss" | walk_at "t"))
local macro_rules | `(tactic| walk_at "gx") => `(tactic| repeat (first | walk_at "e" | walk_at "v" | walk_at "ss" | walk_at "t" | refine ⟨by simp only [List.length_cons, List.length_nil]; decide, ?_⟩))
local macro_rules | `(tactic| walk_at "tg") => `(tactic| repeat (first | ((with_reducible refine' sg_tup ?q ?hc ?hn ?st); (case hc => exact DX.calm (by assumption)); (case hn => rfl); (case st => rfl)) | (refine sgs_cons ?_) | with_reducible refine sgs_nil ?_ | ((refine dx_tgt (by assumption) _ (by with_reducible assumption) ?_))))
def isShade : S → Bool
  | .int i => decide (0 ≤ i) && decide (i ≤ 3)
  | _ => false
def isLet (n : Int) : S → Bool
  | .int i => decide (0 ≤ i) && decide (i < n)
  | _ => false
def isRow (b n : Int) : S → Bool
  | .tup xs => decide ((xs.length : Int) = b) && xs.all (isLet n)
  | _ => false
def isBlk (b n : Int) : S → Bool
  | .tup xs => decide ((xs.length : Int) = b) && xs.all (isRow b n)
  | _ => false
def shelfB : S → S → S → Bool
  | .int b, .tup sh, .tup bl => (decide (2 ≤ b) && decide (b ≤ 4)) && ((decide (1 ≤ (sh.length : Int)) && decide ((sh.length : Int) ≤ 64)) && decide ((bl.length : Int) = sh.length))
  | _, _, _ => false
def isShelf : S → Bool
  | .tup [a, b, c] => shelfB a b c
  | _ => false
def restB : S → Bool
  | .tup [.int b, .tup sh, .tup bl] => sh.all isShade && bl.all (isBlk b bl.length)
  | _ => false
def letB : S → S → Bool
  | .tup [_, .tup sh, _], .int l => decide (0 ≤ l) && decide (l < (sh.length : Int))
  | _, _ => false
def isPic : S → Bool
  | .tup [bk, l] => (isShelf bk && letB bk l) && restB bk
  | _ => false
theorem isTup_no {s : S} (c : (!isTup s) = true) : isShelf s = false ∧ isPic s = false := by cases s <;> first | exact ⟨rfl, rfl⟩ | cases c
theorem isTup_ex {s : S} (c : (!isTup s) = false) : ∃ xs, s = .tup xs := by cases s <;> first | exact ⟨_, rfl⟩ | cases c
theorem len3 {xs : List S} (h : (xs.length : Int) = 3) : ∃ a b c, xs = [a, b, c] := by
  match xs, h with
  | [a, b, c], _ => exact ⟨a, b, c, rfl⟩
  | [], h => simp at h
  | [_], h => simp at h
  | [_, _], h => simp at h
  | _ :: _ :: _ :: _ :: r, h => simp at h; omega
theorem len2 {xs : List S} (h : (xs.length : Int) = 2) : ∃ a b, xs = [a, b] := by
  match xs, h with
  | [a, b], _ => exact ⟨a, b, rfl⟩
  | [], h => simp at h
  | [_], h => simp at h
  | _ :: _ :: _ :: r, h => simp at h; omega
theorem all_no {f : S → Bool} {xs : List S} {i : Nat} {s : S} (h : xs[i]? = some s) (e : f s = false) : xs.all f = false := by
  rw [← Bool.not_eq_true, List.all_eq_true]
  intro z
  rw [z s (List.mem_of_getElem? h)] at e
  cases e
theorem all_yes {f : S → Bool} {xs : List S} (h : ∀ (i : Nat) (s : S), xs[i]? = some s → f s = true) : xs.all f = true := by
  rw [List.all_eq_true]
  intro s hs
  obtain ⟨i, hi⟩ := List.getElem?_of_mem hs
  exact h i s hi
theorem shelf_parts {s : S} (h : isShelf s = true) : ∃ b sh bl, s = .tup [.int b, .tup sh, .tup bl] ∧ 2 ≤ b ∧ b ≤ 4 ∧ 1 ≤ sh.length ∧ sh.length ≤ 64 ∧ bl.length = sh.length := by
  unfold isShelf at h
  split at h
  · unfold shelfB at h
    split at h
    · simp only [Bool.and_eq_true, decide_eq_true_eq] at h
      obtain ⟨⟨h1, h2⟩, ⟨h3, h4⟩, h5⟩ := h
      exact ⟨_, _, _, rfl, h1, h2, by omega, by omega, by omega⟩
    · cases h
  · cases h
theorem isPic_ok {b : Int} {sh : List Int} {bl : List Blk} {l : Int} (ok : PicOk b sh bl l) : isPic (picT b sh bl l) = true := by
  have b0 := ok.ok.b0
  have b1 := ok.ok.b1
  have l0 := ok.ok.l0
  have l1 := ok.ok.l1
  have lb := ok.ok.lb
  have h1 : isShelf (bookT b sh bl) = true := by
    show ((decide (2 ≤ b) && decide (b ≤ 4)) && ((decide (1 ≤ ((sh.map S.int).length : Int)) && decide (((sh.map S.int).length : Int) ≤ 64)) && decide (((bl.map blkT).length : Int) = (sh.map S.int).length))) = true
    simp only [List.length_map, Bool.and_eq_true, decide_eq_true_eq]
    omega
  have h2 : letB (bookT b sh bl) (.int l) = true := by
    show (decide (0 ≤ l) && decide (l < ((sh.map S.int).length : Int))) = true
    have := ok.l0
    have := ok.l1
    simp only [List.length_map, Bool.and_eq_true, decide_eq_true_eq]
    omega
  have h3 : restB (bookT b sh bl) = true := by
    show ((sh.map S.int).all isShade && (bl.map blkT).all (isBlk b (bl.map blkT).length)) = true
    rw [Bool.and_eq_true, List.all_eq_true, List.all_eq_true]
    refine ⟨fun s hs => ?_, fun s hs => ?_⟩
    · obtain ⟨i, hi, rfl⟩ := List.mem_map.mp hs
      have := ok.ok.hs i hi
      show (decide (0 ≤ i) && decide (i ≤ 3)) = true
      simp only [Bool.and_eq_true, decide_eq_true_eq]; omega
    · obtain ⟨B, hB, rfl⟩ := List.mem_map.mp hs
      obtain ⟨e1, e2⟩ := ok.ok.hb B hB
      show (decide (((B.map rowT).length : Int) = b) && (B.map rowT).all (isRow b _)) = true
      rw [List.length_map, decide_eq_true e1, Bool.true_and, List.all_eq_true]
      intro r hr
      obtain ⟨r, hr', rfl⟩ := List.mem_map.mp hr
      obtain ⟨e3, e4⟩ := e2 r hr'
      show (decide (((r.map S.int).length : Int) = b) && (r.map S.int).all (isLet _)) = true
      rw [List.length_map, decide_eq_true e3, Bool.true_and, List.all_eq_true]
      intro x hx
      obtain ⟨i, hi, rfl⟩ := List.mem_map.mp hx
      have := e4 i hi
      show (decide (0 ≤ i) && decide (i < ((bl.map blkT).length : Int))) = true
      rw [List.length_map, lb]
      simp only [Bool.and_eq_true, decide_eq_true_eq]; omega
  show ((isShelf (bookT b sh bl) && letB (bookT b sh bl) (.int l)) && restB (bookT b sh bl)) = true
  rw [h1, h2, h3]; rfl
def C_is_int : Con := fun ss M Q _ => ∃ s, ss = [s] ∧ Kn M s ∧ Q (.bl (isInt s)) M
def C_is_shelf : Con := fun ss M Q _ => ∃ s, ss = [s] ∧ Kn M s ∧ Q (.bl (isShelf s)) M
def C_are_shades : Con := fun ss M Q _ => ∃ xs, ss = [.tup xs] ∧ (∀ s, s ∈ xs → Kn M s) ∧ Q (.bl (xs.all isShade)) M
def C_are_blocks : Con := fun ss M Q _ => ∃ (b : Int) (xs : List S), ss = [.tup xs, .int b] ∧ (∀ s, s ∈ xs → Kn M s) ∧ Q (.bl (xs.all (isBlk b xs.length))) M
def C_is_picture : Con := fun ss M Q _ => ∃ s, ss = [s] ∧ Kn M s ∧ Q (.bl (isPic s)) M
theorem kn_items {M : Mem} {xs : List S} (h : Kn M (.tup xs)) : ∀ s, s ∈ xs → Kn M s := by cases h; assumption
section
variable {P : Program} {w : World} {K : PySem.W.Frag} {mg : Str → Option Value} {base : Heap}
theorem sc_is_int : FnScope ["value"] ["value"] (defScope s_is_int) := ⟨rfl, rfl, rfl, by decide +kernel, rfl, by decide +kernel, by decide +kernel⟩
theorem ok_is_int {f : Addr} {fd : FuncData} (F : Fun K "is_int" "is_int" s_is_int f fd) (T : Txt mg) : FnOk P w K mg base (L2.CX P w) 1 f fd ["value"] (SpC K C_is_int) := by
  refine def_ok F sc_is_int (fun ss M Q E h => ?_) (fun X G eP ew eK em eb d ss M Q E h wi => ?_)
  · obtain ⟨s, rfl, hk, q⟩ := h; rfl
  subst eP ew eK em eb
  have dn := d.dn
  have n0 : nmB ["value"] (defScope s_is_int) 0 "value" = true := by decide +kernel
  have g_isinstance : glB (defScope s_is_int) "isinstance" = true := by decide +kernel
  have g_int : glB (defScope s_is_int) "int" = true := by decide +kernel
  have g_bool : glB (defScope s_is_int) "bool" = true := by decide +kernel
  have t_bool := T.bool
  have t_int := T.int
  have t_isinstance := T.isinstance
  obtain ⟨s, rfl, hk, q⟩ := h
  conv => pattern (defBody _); whnf
  show SSs X G _ [some s] M _
  walk_at "go"
  refine ⟨_, rfl, fun c => ?_, fun c => ?_⟩
  · walk_at "go"
    refine ⟨_, rfl, M, Sub.refl, ?_⟩
    have e : (!isBl s) = isInt s := by cases s <;> first | rfl | (cases c)
    rw [e]; exact q
  · have e : isInt s = false := by cases s <;> first | rfl | (cases c)
    rw [e] at q
    exact ⟨M, Sub.refl, q⟩
theorem sc_is_shelf : FnScope ["value", "base", "shades", "blocks"] ["value"] (defScope s_is_shelf) := ⟨rfl, rfl, rfl, by decide +kernel, rfl, by decide +kernel, by decide +kernel⟩
theorem ok_is_shelf {f : Addr} {fd : FuncData} (F : Fun K "is_shelf" "is_shelf" s_is_shelf f fd) (T : Txt mg) (hML : ∃ t, mg "MOST_LETTERS" = some (.int 64 t)) : FnOk P w K mg base (L2.CX P w) 1 f fd ["value"] (SpC K C_is_shelf) := by
  refine def_ok F sc_is_shelf (fun ss M Q E h => ?_) (fun X G eP ew eK em eb d ss M Q E h wi => ?_)
  · obtain ⟨s, rfl, hk, q⟩ := h; rfl
  subst eP ew eK em eb
  have dn := d.dn
  have n0 : nmB ["value", "base", "shades", "blocks"] (defScope s_is_shelf) 0 "value" = true := by decide +kernel
  have n1 : nmB ["value", "base", "shades", "blocks"] (defScope s_is_shelf) 1 "base" = true := by decide +kernel
  have n2 : nmB ["value", "base", "shades", "blocks"] (defScope s_is_shelf) 2 "shades" = true := by decide +kernel
  have n3 : nmB ["value", "base", "shades", "blocks"] (defScope s_is_shelf) 3 "blocks" = true := by decide +kernel
  have l1 : lcB ["value", "base", "shades", "blocks"] (defScope s_is_shelf) 1 "base" = true := by decide +kernel
  have l2 : lcB ["value", "base", "shades", "blocks"] (defScope s_is_shelf) 2 "shades" = true := by decide +kernel
  have l3 : lcB ["value", "base", "shades", "blocks"] (defScope s_is_shelf) 3 "blocks" = true := by decide +kernel
  have g_isinstance : glB (defScope s_is_shelf) "isinstance" = true := by decide +kernel
  have g_tuple : glB (defScope s_is_shelf) "tuple" = true := by decide +kernel
  have g_len : glB (defScope s_is_shelf) "len" = true := by decide +kernel
  have g_int : glB (defScope s_is_shelf) "int" = true := by decide +kernel
  have g_bool : glB (defScope s_is_shelf) "bool" = true := by decide +kernel
  have g_MOST_LETTERS : glB (defScope s_is_shelf) "MOST_LETTERS" = true := by decide +kernel
  have t_bool := T.bool
  have t_int := T.int
  have t_isinstance := T.isinstance
  have t_len := T.len
  have t_tuple := T.tuple
  obtain ⟨s, rfl, hk, q⟩ := h
  conv => pattern (defBody _); whnf
  show SSs X G _ [some s, none, none, none] M _
  have q0 : ∀ {b : Bool}, isShelf s = b → Q (.bl b) M := fun e => by rw [← e]; exact q
  walk_at "go"
  refine QB.mk ⟨fun c => ⟨fun _ => ?_, fun z => (by cases z)⟩, fun c => ?_⟩
  · walk_at "go"
    exact ⟨M, Sub.refl, q0 (isTup_no c).1⟩
  obtain ⟨xs, rfl⟩ := isTup_ex c
  walk_at "go"
  refine QB.mk ⟨fun c => ?_, fun c => ?_⟩
  · walk_at "go"
    refine ⟨M, Sub.refl, q0 ?_⟩
    unfold isShelf
    split
    · rename_i h
      cases h
      exact absurd c (by show ¬ (!decide ((3 : Int) = 3)) = true; decide)
    · rfl
  refine sb_nil ?_
  obtain ⟨a1, a2, a3, rfl⟩ := len3 (by simpa using c)
  have kx := kn_items hk
  have k1 := kx a1 (by simp)
  have k2 := kx a2 (by simp)
  have k3 := kx a3 (by simp)
  walk_at "s"
  walk_at "gt"
  walk_at "tg"
  show SSs _ G _ [some (.tup [a1, a2, a3]), some a1, some a2, some a3] M _
  have q1 : ∀ {b : Bool}, shelfB a1 a2 a3 = b → Q (.bl b) M := fun e => q0 e
  walk_at "go"
  refine QB.mk ⟨fun c => ⟨fun _ => ?_, fun z => (by cases z)⟩, fun c => ?_⟩
  · walk_at "go"
    refine ⟨M, Sub.refl, q1 ?_⟩
    cases a1 <;> first | rfl | (cases c)
  walk_at "go"
  refine QB.mk ⟨fun c2 => ⟨fun _ => ?_, fun z => (by cases z)⟩, fun c2 => ?_⟩
  · walk_at "go"
    refine ⟨M, Sub.refl, q1 ?_⟩
    cases a1 <;> first | rfl | (cases c2)
  obtain ⟨b, rfl⟩ : ∃ b, a1 = .int b := by cases a1 <;> first | exact ⟨_, rfl⟩ | (cases c; done) | (cases c2; done)
  have noB : ∀ {b : Int}, ¬ (2 ≤ b ∧ b ≤ 4) → shelfB (.int b) a2 a3 = false := fun {b} h => by
    have e : (decide (2 ≤ b) && decide (b ≤ 4)) = false := by
      rw [← Bool.not_eq_true, Bool.and_eq_true, decide_eq_true_eq, decide_eq_true_eq]; exact h
    cases a2 <;> first | rfl | (cases a3 <;> first | rfl | (show ((decide (2 ≤ b) && decide (b ≤ 4)) && _) = false; rw [e]; rfl))
  walk_at "go"
  refine rch_leI (fun c3 => QB.mk ⟨fun _ => ?_, fun z => (by cases z)⟩) (fun c3 => ?_)
  · walk_at "go"
    exact ⟨M, Sub.refl, q1 (noB fun h => c3 h.1)⟩
  walk_at "go"
  refine QB.mk ⟨fun c4 => ?_, fun c4 => ?_⟩
  · walk_at "go"
    refine ⟨M, Sub.refl, q1 (noB fun h => ?_)⟩
    rw [decide_eq_true h.2] at c4; cases c4
  have c4' : b ≤ 4 := by
    by_cases z : b ≤ 4
    · exact z
    · rw [decide_eq_false z] at c4; cases c4
  refine sb_nil ?_
  show SSs _ G _ [some (.tup [.int b, a2, a3]), some (.int b), some a2, some a3] M _
  walk_at "go"
  refine QB.mk ⟨fun c5 => ⟨fun _ => ?_, fun z => (by cases z)⟩, fun c5 => ?_⟩
  · walk_at "go"
    refine ⟨M, Sub.refl, q1 ?_⟩
    cases a2 <;> first | rfl | (cases c5)
  obtain ⟨sh, rfl⟩ := isTup_ex c5
  walk_at "go"
  refine QB.mk ⟨fun c6 => ?_, fun c6 => ?_⟩
  · walk_at "go"
    refine ⟨M, Sub.refl, q1 ?_⟩
    cases a3 <;> first | rfl | (cases c6)
  obtain ⟨bl, rfl⟩ := isTup_ex c6
  refine sb_nil ?_
  have qF : ∀ {k : Bool}, ((decide (1 ≤ (sh.length : Int)) && decide ((sh.length : Int) ≤ 64)) && decide ((bl.length : Int) = sh.length)) = k → Q (.bl k) M := fun {k} e => q1 (by
    show ((decide (2 ≤ b) && decide (b ≤ 4)) && _) = k
    rw [decide_eq_true c3, decide_eq_true c4']
    exact e)
  obtain ⟨tML, hML⟩ := hML
  walk_at "go"
  refine rch_leI (fun c7 => ⟨_, rfl, fun z => (by cases z), fun _ => ⟨M, Sub.refl, qF ?_⟩⟩) (fun c7 => ?_)
  · rw [decide_eq_false c7]; rfl
  refine se_glob (v := .int 64) (gl_of dn g_MOST_LETTERS) hML ⟨_, rfl⟩ (fun _ => .int 64) ?_
  walk_at "go"
  refine ⟨_, rfl, fun c8 => ?_, fun c8 => ⟨M, Sub.refl, qF ?_⟩⟩
  · walk_at "go"
    refine ⟨M, Sub.refl, qF ?_⟩
    rw [decide_eq_true c7, c8]; rfl
  · rw [c8, Bool.and_false]; rfl
theorem sc_are_shades : FnScope ["entries", "entry"] ["entries"] (defScope s_are_shades) := ⟨rfl, rfl, rfl, by decide +kernel, rfl, by decide +kernel, by decide +kernel⟩
theorem ok_are_shades {f : Addr} {fd : FuncData} (F : Fun K "are_shades" "are_shades" s_are_shades f fd) (T : Txt mg) : FnOk P w K mg base (L2.CX P w) 1 f fd ["entries"] (SpC K C_are_shades) := by
  refine def_ok F sc_are_shades (fun ss M Q E h => ?_) (fun X G eP ew eK em eb d ss M Q E h wi => ?_)
  · obtain ⟨xs, rfl, kx, q⟩ := h; rfl
  subst eP ew eK em eb
  have dn := d.dn
  have n0 : nmB ["entries", "entry"] (defScope s_are_shades) 0 "entries" = true := by decide +kernel
  have n1 : nmB ["entries", "entry"] (defScope s_are_shades) 1 "entry" = true := by decide +kernel
  have l1 : lcB ["entries", "entry"] (defScope s_are_shades) 1 "entry" = true := by decide +kernel
  have g_isinstance : glB (defScope s_are_shades) "isinstance" = true := by decide +kernel
  have g_int : glB (defScope s_are_shades) "int" = true := by decide +kernel
  have t_int := T.int
  have t_isinstance := T.isinstance
  obtain ⟨xs, rfl, kx, q⟩ := h
  conv => pattern (defBody _); whnf
  show SSs X G _ [some (.tup xs), none] M _
  refine sb_cons ?_
  refine dx_for d (fun _ => rfl) ?_
  refine si_tup ?_
  walk_at "go"
  refine ⟨_, rfl, fun i v' M' => M' = M ∧ (∀ j s, j < i → xs[j]? = some s → isShade s = true) ∧ ∃ y, v' = [some (.tup xs), y], ⟨rfl, (fun j s h => by omega), none, rfl⟩, fun _ _ _ _ => True.intro, ?_, ?_⟩
  · rintro i s v' M' ex ⟨rfl, hall, y, rfl⟩
    have ks := kx s (List.mem_of_getElem? ex)
    have no : isShade s = false → Q (.bl false) M' := fun e => by rw [all_no ex e] at q; exact q
    refine dx_tgt d 1 l1 ?_
    show SSs _ G _ [some (.tup xs), some s] M' _
    walk_at "go"
    refine rc_isA (QB.mk ⟨fun c => ⟨fun _ => ?_, fun z => (by cases z)⟩, fun c1 => ?_⟩)
    · walk_at "go"
      refine ⟨_, Sub.refl, no ?_⟩
      cases s <;> first | rfl | (cases c)
    walk_at "go"
    refine rc_isA (QB.mk ⟨fun c => ⟨fun _ => ?_, fun z => (by cases z)⟩, fun c2 => ?_⟩)
    · walk_at "go"
      refine ⟨_, Sub.refl, no ?_⟩
      cases s <;> first | rfl | (cases c)
    have hb : ¬ ∃ k, s = .bl k := fun ⟨k, e⟩ => by subst e; cases k <;> first | (cases c1; done) | (cases c2; done)
    walk_at "go"
    refine QB.mk ⟨fun c => ⟨fun _ => ?_, fun z => (by cases z)⟩, fun c => ?_⟩
    · walk_at "go"
      refine ⟨_, Sub.refl, no ?_⟩
      cases s <;> first | rfl | (cases c)
    obtain ⟨n, rfl⟩ : ∃ n, s = .int n := by cases s <;> first | exact ⟨_, rfl⟩ | exact absurd ⟨_, rfl⟩ hb | (cases c; done)
    walk_at "go"
    refine QB.mk ⟨fun c => ⟨fun _ => ?_, fun z => (by cases z)⟩, fun c => ?_⟩
    · walk_at "go"
      refine ⟨_, Sub.refl, no ?_⟩
      show (decide (0 ≤ n) && _) = false
      have := of_decide_eq_true c
      rw [decide_eq_false (by omega)]; rfl
    have c0 : 0 ≤ n := by have := of_decide_eq_false c; omega
    walk_at "go"
    refine QB.mk ⟨fun c => ?_, fun c => ?_⟩
    · walk_at "go"
      refine ⟨_, Sub.refl, no ?_⟩
      show (_ && decide (n ≤ 3)) = false
      have := of_decide_eq_true c
      rw [show decide (n ≤ 3) = false from decide_eq_false (by omega), Bool.and_false]
    have c : n ≤ 3 := by have := of_decide_eq_false c; omega
    refine sb_nil ?_
    refine ⟨rfl, fun j s hj hs => ?_, _, rfl⟩
    by_cases e : j = i
    · subst e
      rw [ex] at hs
      cases hs
      show (decide (0 ≤ n) && decide (n ≤ 3)) = true
      rw [decide_eq_true c0, show decide (n ≤ 3) = true by simpa using c]; rfl
    · exact hall j s (by omega) hs
  · rintro v' M' ⟨rfl, hall, y, rfl⟩
    walk_at "go"
    refine ⟨_, Sub.refl, ?_⟩
    rw [all_yes fun i s h => hall i s (List.getElem?_eq_some_iff.mp h).1 h] at q
    exact q
end

end Sy

set_option Elab.async false
set_option linter.all false
set_option maxRecDepth 100000
set_option maxHeartbeats 1000000
namespace Sy
open PySem PySem.Spec PyProof.Rows L2
local macro_rules | `(tactic| walk_at "nm") => `(tactic| ((with_reducible refine' dn_name ?d _ ?h ?he ?q); (case d => assumption); (case h => with_reducible assumption); (case he => rfl)))
local macro_rules | `(tactic| walk_at "cn") => `(tactic| first | with_reducible refine se_int ?_ | with_reducible refine se_bl ?_ | with_reducible refine se_non ?_ | with_reducible refine se_str ?_)
local macro_rules | `(tactic| walk_at "ct") => `(tactic| ((with_reducible refine' dn_callT ?d ?m ?v ?g ?n ?db ?st ?pl ?q); (case d => assumption); (case m => with_reducible assumption); (case v => first | with_reducible exact bt_int | with_reducible exact bt_tuple | with_reducible exact bt_list | with_reducible exact bt_str | with_reducible exact bt_bool); (case g => with_reducible assumption); (case n => decide); (case db => decide); (case st => rfl); (case pl => rfl)))
local macro_rules | `(tactic| walk_at "cb") => `(tactic| ((with_reducible refine' dn_callB ?d ?m ?v ?g ?n ?db ?st ?pl ?q); (case d => assumption); (case m => with_reducible assumption); (case v => first | with_reducible exact bf_len | with_reducible exact bf_isinstance | with_reducible exact bf_all | with_reducible exact bf_max | with_reducible exact bf_min | with_reducible exact bf_abs | with_reducible exact bf_sum | with_reducible exact bf_any | with_reducible exact bf_repr); (case g => with_reducible assumption); (case n => decide); (case db => decide); (case st => rfl); (case pl => rfl)))
local macro_rules | `(tactic| walk_at "cf") => `(tactic| ((with_reducible refine' dn_call ?d ?F ?g ?k ?db ?st ?pl ?q); (case d => assumption); (case F => with_reducible assumption); (case g => with_reducible assumption); (case k => decide); (case db => decide); (case st => rfl); (case pl => rfl)))
local macro_rules | `(tactic| walk_at "tv") => `(tactic| ((with_reducible refine' dn_ty ?d ?m ?v ?g ?n ?db ?q); (case d => assumption); (case m => with_reducible assumption); (case v => first | with_reducible exact bt_int | with_reducible exact bt_tuple | with_reducible exact bt_list | with_reducible exact bt_str | with_reducible exact bt_bool); (case g => with_reducible assumption); (case n => decide); (case db => decide)))
local macro_rules | `(tactic| walk_at "ck") => `(tactic| ((with_reducible refine' dn_kw ?d ?F ?g ?k ?db ?a ?ks ?pl ?q); (case d => assumption); (case F => with_reducible assumption); (case g => with_reducible assumption); (case k => decide); (case db => decide); (case a => rfl); (case ks => rfl); (case pl => rfl)))
local macro_rules | `(tactic| walk_at "e") => `(tactic| first | walk_at "nm" | walk_at "cn" | with_reducible refine se_bin ?_ | ((with_reducible refine' se_cmp ?q ?st); (case st => first | exact nomark _ | rfl)) | ((with_reducible refine' se_ix ?q ?st); (case st => exact fun _ _ => rfl)) | with_reducible refine sa_nil ?_ | ((with_reducible refine' sa_cons ?q ?st); (case st => rfl)) | walk_at "cf" | walk_at "ck" | with_reducible refine sk_nil ?_ | with_reducible refine sk_cons ?_ | walk_at "cb" | walk_at "ct" | walk_at "tv" | with_reducible refine se_one ?_ | ((with_reducible refine' se_chain ?q ?st); (case st => with_unfolding_all rfl)) | with_reducible refine se_tup ?_ | with_reducible refine se_lst ?_ | with_reducible refine se_and ?_ | with_reducible refine se_or ?_ | with_reducible refine se_not ?_ | with_reducible refine se_un ?_ )
local macro_rules | `(tactic| walk_at "v") => `(tactic| first | with_reducible refine ro_addI ?_ | with_reducible refine rc_isIB ?_ | with_reducible refine rc_eqB ?_ | with_reducible refine rc_neB ?_ | with_reducible refine rc_isN ?_ | with_reducible refine rc_notN ?_ | with_reducible refine ro_subI ?_ | with_reducible refine rc_eqI ?_ | with_reducible refine rc_neI ?_ | with_reducible refine rc_ltI ?_ | with_reducible refine rc_leI ?_ | with_reducible refine rc_gtI ?_ | with_reducible refine rc_geI ?_ | with_reducible refine rb_intI ?_ | with_reducible refine ru_neg ?_ | with_reducible refine rb_tupleT ?_ | ((with_reducible refine rb_isInt ?h ?q); (case h => assumption)) | ((with_reducible refine rb_isBool ?h ?q); (case h => assumption)) | ((with_reducible refine rb_isTup ?h ?q); (case h => assumption)) | with_reducible refine rb_len its_tup ?_ | (refine rx_tup (by rfl) ?_) | ((with_reducible refine' rx_lst ?h ?a ?q); (case h => with_reducible assumption); (case a => rfl)))
local macro_rules | `(tactic| walk_at "ss") => `(tactic| first | with_reducible refine ss_ret (se_fg ?_) | with_reducible refine ss_if ?_ | ((with_reducible refine' ss_expr ?q ?st); (case st => rfl)) | ((with_reducible refine' dx_set ?d _ ?h ?hs ?q); (case d => assumption); (case h => with_reducible assumption); (case hs => rfl)) | ((with_reducible refine' ss_asg (tg := .Tuple _ _ _) ?q ?hs ?hw ?h1); (case hs => rfl); (case hw => rfl); (case h1 => rfl)))
local macro_rules | `(tactic| walk_at "s") => `(tactic| first | with_reducible refine sb_one ?_ | with_reducible refine sb_cons ?_ | walk_at "ss")
local macro_rules | `(tactic| walk_at "t") => `(tactic| first | with_reducible refine st_not ?_ | ((with_reducible refine' st_cmp ?q ?st); (case st => first | exact nomark _ | rfl)) | with_reducible refine sw_and1 ?_ | with_reducible refine sw_or1 ?_ | with_reducible refine sw_or ?_ | with_reducible refine sw_and ?_ | ((with_reducible refine' st_chain ?q ?st); (case st => with_unfolding_all rfl)) | (refine st_of ?_; first | with_reducible refine sw_or ?_ | with_reducible refine sw_and ?_) | ((with_reducible refine' st_val ?q ?st); (case st => intro _; rfl)))
local macro_rules | `(tactic| walk_at "go") => `(tactic| repeat (first | walk_at "e" | walk_at "v" | walk_at "s" | walk_at "t"))
local macro_rules | `(tactic| walk_at "gt") => `(tactic| repeat (first | walk_at "e" | walk_at "v" | walk_at "ss" | walk_at "t"))
local macro_rules | `(tactic| walk_at "gx") => `(tactic| repeat (first | walk_at "e" | walk_at "v" | walk_at "ss" | walk_at "t" | refine ⟨by simp only [List.length_cons, List.length_nil]; decide, ?_⟩))
local macro_rules | `(tactic| walk_at "tg") => `(tactic| repeat (first | ((with_reducible refine' sg_tup ?q ?hc ?hn ?st); (case hc => exact DX.calm (by assumption)); (case hn => rfl); (case st => rfl)) | (refine sgs_cons ?_) | with_reducible refine sgs_nil ?_ | ((refine dx_tgt (by assumption) _ (by with_reducible assumption) ?_))))
def C_anew (N : Nat) : Con := fun ss M Q _ => ∃ s n d A0, ss = [s] ∧ n ≤ N ∧ Da M A0 n s d ∧ ∀ s' M' A, Sub M M' → (∀ p, A p → M p = none) → Da M' A n s' d → Q s' M'
def C_check_picture (cI : Addr) : Con := fun ss M Q E => ∃ s, ss = [s] ∧ Kn M s ∧ (isPic s = true → Q .non M) ∧ (isPic s = false → ∃ n d A0, n ≤ 6 ∧ Da M A0 n s d ∧ ∀ s' M' A, Sub M M' → (∀ p, A p → M p = none) → Da M' A n s' d → E cI s' M')
def C_check_depth (cD : Addr) : Con := fun ss M Q E => ∃ d : Int, ss = [.int d] ∧ (0 ≤ d → Q .non M) ∧ (d < 0 → E cD (.int d) M)
theorem blk_no {b n : Int} {s : S} (h : (!isTup s) = true) : isBlk b n s = false ∧ isRow b n s = false := by cases s <;> first | exact ⟨rfl, rfl⟩ | (cases h; done)
theorem isPic_two {s : S} (h : isPic s = true) : ∃ a b, s = .tup [a, b] := by
  unfold isPic at h
  split at h
  · exact ⟨_, _, rfl⟩
  · cases h
section
variable {P : Program} {w : World} {K : PySem.W.Frag} {mg : Str → Option Value} {base : Heap} {cI cD fI fD : Addr}
theorem sc_are_blocks : FnScope ["entries", "base", "many", "block", "row", "letter"] ["entries", "base"] (defScope s_are_blocks) := ⟨rfl, rfl, rfl, by decide +kernel, rfl, by decide +kernel, by decide +kernel⟩
theorem ok_are_blocks {f : Addr} {fd : FuncData} (F : Fun K "are_blocks" "are_blocks" s_are_blocks f fd) (T : Txt mg) : FnOk P w K mg base (L2.CX P w) 1 f fd ["entries", "base"] (SpC K C_are_blocks) := by
  refine def_ok F sc_are_blocks (fun ss M Q E h => ?_) (fun X G eP ew eK em eb d ss M Q E h wi => ?_)
  · obtain ⟨b, xs, rfl, kx, q⟩ := h; rfl
  subst eP ew eK em eb
  have dn := d.dn
  have n0 : nmB ["entries", "base", "many", "block", "row", "letter"] (defScope s_are_blocks) 0 "entries" = true := by decide +kernel
  have n1 : nmB ["entries", "base", "many", "block", "row", "letter"] (defScope s_are_blocks) 1 "base" = true := by decide +kernel
  have n2 : nmB ["entries", "base", "many", "block", "row", "letter"] (defScope s_are_blocks) 2 "many" = true := by decide +kernel
  have n3 : nmB ["entries", "base", "many", "block", "row", "letter"] (defScope s_are_blocks) 3 "block" = true := by decide +kernel
  have n4 : nmB ["entries", "base", "many", "block", "row", "letter"] (defScope s_are_blocks) 4 "row" = true := by decide +kernel
  have n5 : nmB ["entries", "base", "many", "block", "row", "letter"] (defScope s_are_blocks) 5 "letter" = true := by decide +kernel
  have l2 : lcB ["entries", "base", "many", "block", "row", "letter"] (defScope s_are_blocks) 2 "many" = true := by decide +kernel
  have l3 : lcB ["entries", "base", "many", "block", "row", "letter"] (defScope s_are_blocks) 3 "block" = true := by decide +kernel
  have l4 : lcB ["entries", "base", "many", "block", "row", "letter"] (defScope s_are_blocks) 4 "row" = true := by decide +kernel
  have l5 : lcB ["entries", "base", "many", "block", "row", "letter"] (defScope s_are_blocks) 5 "letter" = true := by decide +kernel
  have g_len : glB (defScope s_are_blocks) "len" = true := by decide +kernel
  have g_isinstance : glB (defScope s_are_blocks) "isinstance" = true := by decide +kernel
  have g_tuple : glB (defScope s_are_blocks) "tuple" = true := by decide +kernel
  have g_int : glB (defScope s_are_blocks) "int" = true := by decide +kernel
  have t_int := T.int
  have t_isinstance := T.isinstance
  have t_len := T.len
  have t_tuple := T.tuple
  obtain ⟨b, xs, rfl, kx, q⟩ := h
  conv => pattern (defBody _); whnf
  show SSs X G _ [some (.tup xs), some (.int b), none, none, none, none] M _
  walk_at "s"
  walk_at "gt"
  show SSs _ G _ [some (.tup xs), some (.int b), some (.int xs.length), none, none, none] M _
  refine sb_cons ?_
  refine dx_for d (fun _ => rfl) ?_
  refine si_tup ?_
  walk_at "go"
  refine ⟨_, rfl, fun i v' M' => M' = M ∧ (∀ j s, j < i → xs[j]? = some s → isBlk b xs.length s = true) ∧ ∃ y1 y2 y3, v' = [some (.tup xs), some (.int b), some (.int xs.length), y1, y2, y3], ⟨rfl, (fun j s h => by omega), none, none, none, rfl⟩, fun _ _ _ _ => True.intro, ?_, ?_⟩
  · rintro i s v' M' ex ⟨rfl, hall, y1, y2, y3, rfl⟩
    have ks := kx s (List.mem_of_getElem? ex)
    have no : isBlk b xs.length s = false → Q (.bl false) M' := fun e => by rw [all_no ex e] at q; exact q
    refine dx_tgt d 3 l3 ?_
    show SSs _ G _ [some (.tup xs), some (.int b), some (.int xs.length), some s, y2, y3] M' _
    walk_at "go"
    refine QB.mk ⟨fun c => ⟨fun _ => ?_, fun z => (by cases z)⟩, fun c => ?_⟩
    · walk_at "go"
      exact ⟨_, Sub.refl, no (blk_no c).1⟩
    obtain ⟨rs, rfl⟩ := isTup_ex c
    walk_at "go"
    refine QB.mk ⟨fun c => ?_, fun c => ?_⟩
    · walk_at "go"
      refine ⟨_, Sub.refl, no ?_⟩
      show (decide ((rs.length : Int) = b) && _) = false
      rw [show decide ((rs.length : Int) = b) = false by simpa using c]; rfl
    have hlen : (rs.length : Int) = b := by simpa using c
    refine sb_nil ?_
    have kr := kn_items ks
    have noR : ∀ {j : Nat} {r : S}, rs[j]? = some r → isRow b xs.length r = false → Q (.bl false) M' := fun h e => no (by
      show (_ && rs.all (isRow b xs.length)) = false
      rw [all_no h e, Bool.and_false])
    refine sb_one ?_
    refine dx_for d (fun _ => rfl) ?_
    refine si_tup ?_
    walk_at "go"
    refine ⟨_, rfl, fun i v' M2 => M2 = M' ∧ (∀ j s, j < i → rs[j]? = some s → isRow b xs.length s = true) ∧ ∃ y2 y3, v' = [some (.tup xs), some (.int b), some (.int xs.length), some (.tup rs), y2, y3], ⟨rfl, (fun j s h => by omega), _, _, rfl⟩, fun _ _ _ _ => True.intro, ?_, ?_⟩
    · rintro i2 r v' M2 er ⟨rfl, hall2, z2, z3, rfl⟩
      have k2 := kr r (List.mem_of_getElem? er)
      refine dx_tgt d 4 l4 ?_
      show SSs _ G _ [some (.tup xs), some (.int b), some (.int xs.length), some (.tup rs), some r, z3] M2 _
      walk_at "go"
      refine QB.mk ⟨fun c => ⟨fun _ => ?_, fun z => (by cases z)⟩, fun c => ?_⟩
      · walk_at "go"
        exact ⟨_, Sub.refl, noR er (blk_no c).2⟩
      obtain ⟨ls, rfl⟩ := isTup_ex c
      walk_at "go"
      refine QB.mk ⟨fun c => ?_, fun c => ?_⟩
      · walk_at "go"
        refine ⟨_, Sub.refl, noR er ?_⟩
        show (decide ((ls.length : Int) = b) && _) = false
        rw [show decide ((ls.length : Int) = b) = false by simpa using c]; rfl
      have hlen2 : (ls.length : Int) = b := by simpa using c
      refine sb_nil ?_
      have kl := kn_items k2
      have noL : ∀ {j : Nat} {l : S}, ls[j]? = some l → isLet xs.length l = false → Q (.bl false) M2 := fun h e => noR er (by
        show (_ && ls.all (isLet xs.length)) = false
        rw [all_no h e, Bool.and_false])
      refine sb_one ?_
      refine dx_for d (fun _ => rfl) ?_
      refine si_tup ?_
      walk_at "go"
      refine ⟨_, rfl, fun i v' M3 => M3 = M2 ∧ (∀ j s, j < i → ls[j]? = some s → isLet xs.length s = true) ∧ ∃ y3, v' = [some (.tup xs), some (.int b), some (.int xs.length), some (.tup rs), some (.tup ls), y3], ⟨rfl, (fun j s h => by omega), _, rfl⟩, fun _ _ _ _ => True.intro, ?_, ?_⟩
      · rintro i3 l v' M3 el ⟨rfl, hall3, w3, rfl⟩
        have k3 := kl l (List.mem_of_getElem? el)
        refine dx_tgt d 5 l5 ?_
        show SSs _ G _ [some (.tup xs), some (.int b), some (.int xs.length), some (.tup rs), some (.tup ls), some l] M3 _
        walk_at "go"
        refine rc_isA (QB.mk ⟨fun c => ⟨fun _ => ?_, fun z => (by cases z)⟩, fun c1 => ?_⟩)
        · walk_at "go"
          refine ⟨_, Sub.refl, noL el ?_⟩
          cases l <;> first | rfl | (cases c)
        walk_at "go"
        refine rc_isA (QB.mk ⟨fun c => ⟨fun _ => ?_, fun z => (by cases z)⟩, fun c2 => ?_⟩)
        · walk_at "go"
          refine ⟨_, Sub.refl, noL el ?_⟩
          cases l <;> first | rfl | (cases c)
        have hb : ¬ ∃ k, l = .bl k := fun ⟨k, e⟩ => by subst e; cases k <;> first | (cases c1; done) | (cases c2; done)
        walk_at "go"
        refine QB.mk ⟨fun c => ⟨fun _ => ?_, fun z => (by cases z)⟩, fun c => ?_⟩
        · walk_at "go"
          refine ⟨_, Sub.refl, noL el ?_⟩
          cases l <;> first | rfl | (cases c)
        obtain ⟨n, rfl⟩ : ∃ n, l = .int n := by cases l <;> first | exact ⟨_, rfl⟩ | exact absurd ⟨_, rfl⟩ hb | (cases c; done)
        walk_at "go"
        refine QB.mk ⟨fun c => ⟨fun _ => ?_, fun z => (by cases z)⟩, fun c => ?_⟩
        · walk_at "go"
          refine ⟨_, Sub.refl, noL el ?_⟩
          show (decide (0 ≤ n) && _) = false
          have := of_decide_eq_true c
          rw [decide_eq_false (by omega)]; rfl
        have c0 : 0 ≤ n := by have := of_decide_eq_false c; omega
        walk_at "go"
        refine QB.mk ⟨fun c => ?_, fun c => ?_⟩
        · walk_at "go"
          refine ⟨_, Sub.refl, noL el ?_⟩
          show (_ && decide (n < (xs.length : Int))) = false
          have := of_decide_eq_true c
          rw [show decide (n < (xs.length : Int)) = false from decide_eq_false (by omega), Bool.and_false]
        have c : n < (xs.length : Int) := by have := of_decide_eq_false c; omega
        refine sb_nil ?_
        refine ⟨rfl, fun j s hj hs => ?_, _, rfl⟩
        by_cases e : j = i3
        · subst e
          rw [el] at hs
          cases hs
          show (decide (0 ≤ n) && decide (n < (xs.length : Int))) = true
          rw [decide_eq_true c0, show decide (n < (xs.length : Int)) = true by simpa using c]; rfl
        · exact hall3 j s (by omega) hs
      · rintro v' M3 ⟨rfl, hall3, w3, rfl⟩
        refine ⟨rfl, fun j s hj hs => ?_, _, _, rfl⟩
        by_cases e : j = i2
        · subst e
          rw [er] at hs
          cases hs
          show (decide ((ls.length : Int) = b) && ls.all (isLet xs.length)) = true
          rw [decide_eq_true hlen2, all_yes fun i s h => hall3 i s (List.getElem?_eq_some_iff.mp h).1 h]; rfl
        · exact hall2 j s (by omega) hs
    · rintro v' M2 ⟨rfl, hall2, z2, z3, rfl⟩
      refine ⟨rfl, fun j s hj hs => ?_, _, _, _, rfl⟩
      by_cases e : j = i
      · subst e
        rw [ex] at hs
        cases hs
        show (decide ((rs.length : Int) = b) && rs.all (isRow b xs.length)) = true
        rw [decide_eq_true hlen, all_yes fun i s h => hall2 i s (List.getElem?_eq_some_iff.mp h).1 h]; rfl
      · exact hall j s (by omega) hs
  · rintro v' M' ⟨rfl, hall, y1, y2, y3, rfl⟩
    walk_at "go"
    refine ⟨_, Sub.refl, ?_⟩
    rw [all_yes fun i s h => hall i s (List.getElem?_eq_some_iff.mp h).1 h] at q
    exact q
theorem sc_is_picture : FnScope ["value", "book", "letter"] ["value"] (defScope s_is_picture) := ⟨rfl, rfl, rfl, by decide +kernel, rfl, by decide +kernel, by decide +kernel⟩
theorem ok_is_picture {f : Addr} {fd : FuncData} (F : Fun K "is_picture" "is_picture" s_is_picture f fd) (T : Txt mg) (F_is_shelf : Fn P w K mg base "is_shelf" 1 C_is_shelf) (F_is_int : Fn P w K mg base "is_int" 1 C_is_int) (F_are_shades : Fn P w K mg base "are_shades" 1 C_are_shades) (F_are_blocks : Fn P w K mg base "are_blocks" 1 C_are_blocks) : FnOk P w K mg base (L2.CX P w) 2 f fd ["value"] (SpC K C_is_picture) := by
  refine def_ok F sc_is_picture (fun ss M Q E h => ?_) (fun X G eP ew eK em eb d ss M Q E h wi => ?_)
  · obtain ⟨s, rfl, hk, q⟩ := h; rfl
  subst eP ew eK em eb
  have dn := d.dn
  have n0 : nmB ["value", "book", "letter"] (defScope s_is_picture) 0 "value" = true := by decide +kernel
  have n1 : nmB ["value", "book", "letter"] (defScope s_is_picture) 1 "book" = true := by decide +kernel
  have n2 : nmB ["value", "book", "letter"] (defScope s_is_picture) 2 "letter" = true := by decide +kernel
  have l1 : lcB ["value", "book", "letter"] (defScope s_is_picture) 1 "book" = true := by decide +kernel
  have l2 : lcB ["value", "book", "letter"] (defScope s_is_picture) 2 "letter" = true := by decide +kernel
  have g_isinstance : glB (defScope s_is_picture) "isinstance" = true := by decide +kernel
  have g_tuple : glB (defScope s_is_picture) "tuple" = true := by decide +kernel
  have g_len : glB (defScope s_is_picture) "len" = true := by decide +kernel
  have g_is_shelf : glB (defScope s_is_picture) "is_shelf" = true := by decide +kernel
  have g_is_int : glB (defScope s_is_picture) "is_int" = true := by decide +kernel
  have g_are_shades : glB (defScope s_is_picture) "are_shades" = true := by decide +kernel
  have g_are_blocks : glB (defScope s_is_picture) "are_blocks" = true := by decide +kernel
  have t_isinstance := T.isinstance
  have t_len := T.len
  have t_tuple := T.tuple
  obtain ⟨s, rfl, hk, q⟩ := h
  conv => pattern (defBody _); whnf
  show SSs X G _ [some s, none, none] M _
  have q0 : ∀ {b : Bool}, isPic s = b → Q (.bl b) M := fun e => by rw [← e]; exact q
  walk_at "go"
  refine QB.mk ⟨fun c => ⟨fun _ => ?_, fun z => (by cases z)⟩, fun c => ?_⟩
  · walk_at "go"
    exact ⟨M, Sub.refl, q0 (isTup_no c).2⟩
  obtain ⟨xs, rfl⟩ := isTup_ex c
  walk_at "go"
  refine QB.mk ⟨fun c => ?_, fun c => ?_⟩
  · walk_at "go"
    refine ⟨M, Sub.refl, q0 ?_⟩
    unfold isPic
    split
    · rename_i h
      cases h
      exact absurd c (by show ¬ (!decide ((2 : Int) = 2)) = true; decide)
    · rfl
  refine sb_nil ?_
  obtain ⟨a1, a2, rfl⟩ := len2 (by simpa using c)
  have kx := kn_items hk
  have k1 := kx a1 (by simp)
  have k2 := kx a2 (by simp)
  walk_at "s"
  walk_at "gt"
  walk_at "tg"
  show SSs _ G _ [some (.tup [a1, a2]), some a1, some a2] M _
  have q1 : ∀ {b : Bool}, ((isShelf a1 && letB a1 a2) && restB a1) = b → Q (.bl b) M := fun e => q0 e
  walk_at "go"
  refine ⟨_, rfl, k1, QB.mk ⟨fun c => ⟨fun _ => ?_, fun z => (by cases z)⟩, fun c => ?_⟩⟩
  · walk_at "go"
    refine ⟨M, Sub.refl, q1 ?_⟩
    rw [show isShelf a1 = false by simpa using c]; rfl
  have hs : isShelf a1 = true := by simpa using c
  obtain ⟨b, sh, bl, rfl, b0, b1, l0, l1, hbl⟩ := shelf_parts hs
  walk_at "go"
  refine ⟨_, rfl, k2, QB.mk ⟨fun c => ⟨fun _ => ?_, fun z => (by cases z)⟩, fun c => ?_⟩⟩
  · walk_at "go"
    refine ⟨M, Sub.refl, q1 ?_⟩
    have e : letB (.tup [.int b, .tup sh, .tup bl]) a2 = false := by cases a2 <;> first | rfl | (cases c; done)
    rw [e, Bool.and_false]; rfl
  obtain ⟨l, rfl⟩ : ∃ l, a2 = .int l := by cases a2 <;> first | exact ⟨_, rfl⟩ | (cases c; done)
  have q2 : ∀ {k : Bool}, ((decide (0 ≤ l) && decide (l < (sh.length : Int))) && (sh.all isShade && bl.all (isBlk b bl.length))) = k → Q (.bl k) M := fun {k} e => q1 (by
    rw [hs]; exact e)
  walk_at "go"
  refine rch_leI (fun c => QB.mk ⟨fun _ => ?_, fun z => (by cases z)⟩) (fun c0 => ?_)
  · walk_at "go"
    refine ⟨M, Sub.refl, q2 ?_⟩
    rw [decide_eq_false c]; rfl
  walk_at "go"
  refine QB.mk ⟨fun c => ?_, fun c => ?_⟩
  · walk_at "go"
    refine ⟨M, Sub.refl, q2 ?_⟩
    rw [show decide (l < (sh.length : Int)) = false by simpa using c, Bool.and_false]; rfl
  have q3 : ∀ {k : Bool}, (sh.all isShade && bl.all (isBlk b bl.length)) = k → Q (.bl k) M := fun {k} e => q2 (by
    rw [decide_eq_true c0, show decide (l < (sh.length : Int)) = true by simpa using c]; exact e)
  refine sb_nil ?_
  have kb := kn_items k1
  walk_at "go"
  refine ⟨_, rfl, kn_items (kb _ (by simp)), _, rfl, fun z => ?_, fun z => ?_⟩
  · walk_at "go"
    refine ⟨_, _, rfl, kn_items (kb _ (by simp)), M, Sub.refl, q3 ?_⟩
    rw [z]; rfl
  · refine ⟨M, Sub.refl, q3 ?_⟩
    rw [z]; rfl
end

end Sy

set_option Elab.async false
set_option linter.all false
set_option maxRecDepth 100000
set_option maxHeartbeats 1000000
namespace Sy
open PySem PySem.Spec PyProof.Rows L2
local macro_rules | `(tactic| walk_at "nm") => `(tactic| ((with_reducible refine' dn_name ?d _ ?h ?he ?q); (case d => assumption); (case h => with_reducible assumption); (case he => rfl)))
local macro_rules | `(tactic| walk_at "cn") => `(tactic| first | with_reducible refine se_int ?_ | with_reducible refine se_bl ?_ | with_reducible refine se_non ?_ | with_reducible refine se_str ?_)
local macro_rules | `(tactic| walk_at "ct") => `(tactic| ((with_reducible refine' dn_callT ?d ?m ?v ?g ?n ?db ?st ?pl ?q); (case d => assumption); (case m => with_reducible assumption); (case v => first | with_reducible exact bt_int | with_reducible exact bt_tuple | with_reducible exact bt_list | with_reducible exact bt_str | with_reducible exact bt_bool); (case g => with_reducible assumption); (case n => decide); (case db => decide); (case st => rfl); (case pl => rfl)))
local macro_rules | `(tactic| walk_at "cb") => `(tactic| ((with_reducible refine' dn_callB ?d ?m ?v ?g ?n ?db ?st ?pl ?q); (case d => assumption); (case m => with_reducible assumption); (case v => first | with_reducible exact bf_len | with_reducible exact bf_isinstance | with_reducible exact bf_all | with_reducible exact bf_max | with_reducible exact bf_min | with_reducible exact bf_abs | with_reducible exact bf_sum | with_reducible exact bf_any | with_reducible exact bf_repr); (case g => with_reducible assumption); (case n => decide); (case db => decide); (case st => rfl); (case pl => rfl)))
local macro_rules | `(tactic| walk_at "cf") => `(tactic| ((with_reducible refine' dn_call ?d ?F ?g ?k ?db ?st ?pl ?q); (case d => assumption); (case F => with_reducible assumption); (case g => with_reducible assumption); (case k => decide); (case db => decide); (case st => rfl); (case pl => rfl)))
local macro_rules | `(tactic| walk_at "tv") => `(tactic| ((with_reducible refine' dn_ty ?d ?m ?v ?g ?n ?db ?q); (case d => assumption); (case m => with_reducible assumption); (case v => first | with_reducible exact bt_int | with_reducible exact bt_tuple | with_reducible exact bt_list | with_reducible exact bt_str | with_reducible exact bt_bool); (case g => with_reducible assumption); (case n => decide); (case db => decide)))
local macro_rules | `(tactic| walk_at "ck") => `(tactic| ((with_reducible refine' dn_kw ?d ?F ?g ?k ?db ?a ?ks ?pl ?q); (case d => assumption); (case F => with_reducible assumption); (case g => with_reducible assumption); (case k => decide); (case db => decide); (case a => rfl); (case ks => rfl); (case pl => rfl)))
local macro_rules | `(tactic| walk_at "e") => `(tactic| first | walk_at "nm" | walk_at "cn" | with_reducible refine se_bin ?_ | ((with_reducible refine' se_cmp ?q ?st); (case st => first | exact nomark _ | rfl)) | ((with_reducible refine' se_ix ?q ?st); (case st => exact fun _ _ => rfl)) | with_reducible refine sa_nil ?_ | ((with_reducible refine' sa_cons ?q ?st); (case st => rfl)) | walk_at "cf" | walk_at "ck" | with_reducible refine sk_nil ?_ | with_reducible refine sk_cons ?_ | walk_at "cb" | walk_at "ct" | walk_at "tv" | with_reducible refine se_one ?_ | ((with_reducible refine' se_chain ?q ?st); (case st => with_unfolding_all rfl)) | with_reducible refine se_tup ?_ | with_reducible refine se_lst ?_ | with_reducible refine se_and ?_ | with_reducible refine se_or ?_ | with_reducible refine se_not ?_ | with_reducible refine se_un ?_ )
local macro_rules | `(tactic| walk_at "v") => `(tactic| first | with_reducible refine ro_addI ?_ | with_reducible refine rc_isIB ?_ | with_reducible refine rc_eqB ?_ | with_reducible refine rc_neB ?_ | with_reducible refine rc_isN ?_ | with_reducible refine rc_notN ?_ | with_reducible refine ro_subI ?_ | with_reducible refine rc_eqI ?_ | with_reducible refine rc_neI ?_ | with_reducible refine rc_ltI ?_ | with_reducible refine rc_leI ?_ | with_reducible refine rc_gtI ?_ | with_reducible refine rc_geI ?_ | with_reducible refine rb_intI ?_ | with_reducible refine ru_neg ?_ | with_reducible refine rb_tupleT ?_ | ((with_reducible refine rb_isInt ?h ?q); (case h => assumption)) | ((with_reducible refine rb_isBool ?h ?q); (case h => assumption)) | ((with_reducible refine rb_isTup ?h ?q); (case h => assumption)) | with_reducible refine rb_len its_tup ?_ | (refine rx_tup (by rfl) ?_) | ((with_reducible refine' rx_lst ?h ?a ?q); (case h => with_reducible assumption); (case a => rfl)))
local macro_rules | `(tactic| walk_at "ss") => `(tactic| first | with_reducible refine ss_ret (se_fg ?_) | with_reducible refine ss_if ?_ | ((with_reducible refine' ss_expr ?q ?st); (case st => rfl)) | ((with_reducible refine' dx_set ?d _ ?h ?hs ?q); (case d => assumption); (case h => with_reducible assumption); (case hs => rfl)) | ((with_reducible refine' ss_asg (tg := .Tuple _ _ _) ?q ?hs ?hw ?h1); (case hs => rfl); (case hw => rfl); (case h1 => rfl)))
local macro_rules | `(tactic| walk_at "s") => `(tactic| first | with_reducible refine sb_one ?_ | with_reducible refine sb_cons ?_ | walk_at "ss")
local macro_rules | `(tactic| walk_at "t") => `(tactic| first | with_reducible refine st_not ?_ | ((with_reducible refine' st_cmp ?q ?st); (case st => first | exact nomark _ | rfl)) | with_reducible refine sw_and1 ?_ | with_reducible refine sw_or1 ?_ | with_reducible refine sw_or ?_ | with_reducible refine sw_and ?_ | ((with_reducible refine' st_chain ?q ?st); (case st => with_unfolding_all rfl)) | (refine st_of ?_; first | with_reducible refine sw_or ?_ | with_reducible refine sw_and ?_) | ((with_reducible refine' st_val ?q ?st); (case st => intro _; rfl)))
local macro_rules | `(tactic| walk_at "go") => `(tactic| repeat (first | walk_at "e" | walk_at "v" | walk_at "s" | walk_at "t"))
local macro_rules | `(tactic| walk_at "gt") => `(tactic| repeat (first | walk_at "e" | walk_at "v" | walk_at "ss" | walk_at "t"))
local macro_rules | `(tactic| walk_at "gx") => `(tactic| repeat (first | walk_at "e" | walk_at "v" | walk_at "ss" | walk_at "t" | refine ⟨by simp only [List.length_cons, List.length_nil]; decide, ?_⟩))
local macro_rules | `(tactic| walk_at "tg") => `(tactic| repeat (first | ((with_reducible refine' sg_tup ?q ?hc ?hn ?st); (case hc => exact DX.calm (by assumption)); (case hn => rfl); (case st => rfl)) | (refine sgs_cons ?_) | with_reducible refine sgs_nil ?_ | ((refine dx_tgt (by assumption) _ (by with_reducible assumption) ?_))))
section
variable {P : Program} {w : World} {K : PySem.W.Frag} {mg : Str → Option Value} {base : Heap} {cI cD fI fD : Addr}
theorem sc_anew : FnScope ["value", "entry", "inner"] ["value"] (defScope s_anew) := ⟨rfl, rfl, rfl, by decide +kernel, rfl, by decide +kernel, by decide +kernel⟩
theorem ok_anew {f : Addr} {fd : FuncData} (F : Fun K "anew" "anew" s_anew f fd) (T : Txt mg) (Fr : n = 0 ∨ Fn P w K mg base "anew" n (C_anew (n - 1))) : FnOk P w K mg base (L2.CX P w) (n + 1) f fd ["value"] (SpC K (C_anew n)) := by
  refine def_ok F sc_anew (fun ss M Q E h => ?_) (fun X G eP ew eK em eb d ss M Q E h wi => ?_)
  · obtain ⟨s, m, dt, A0, rfl, hm, hd, q⟩ := h; rfl
  subst eP ew eK em eb
  have dn := d.dn
  have n0 : nmB ["value", "entry", "inner"] (defScope s_anew) 0 "value" = true := by decide +kernel
  have n1 : nmB ["value", "entry", "inner"] (defScope s_anew) 1 "entry" = true := by decide +kernel
  have l1 : lcB ["value", "entry", "inner"] (defScope s_anew) 1 "entry" = true := by decide +kernel
  have g_isinstance : glB (defScope s_anew) "isinstance" = true := by decide +kernel
  have g_tuple : glB (defScope s_anew) "tuple" = true := by decide +kernel
  have g_int : glB (defScope s_anew) "int" = true := by decide +kernel
  have g_list : glB (defScope s_anew) "list" = true := by decide +kernel
  have t_int := T.int
  have t_isinstance := T.isinstance
  have t_list := T.list
  have t_tuple := T.tuple
  obtain ⟨s, m, dt, A0, rfl, hm, hd, q⟩ := h
  conv => pattern (defBody _); whnf
  show SSs X G _ [some s, none, none] M _
  have hk := hd.kn
  have hz : (sizeLine : Nat) = 16777216 := sizeLine_eq
  have wd : ∀ m, Wd m ≤ 64 := fun m => by unfold Wd; split <;> omega
  have atom : Da M (fun _ => False) m s dt → Q s M := fun h => q s M _ Sub.refl (fun p hp => hp.elim) h
  have tl : ∀ {p : Addr} {zs : List S}, M p = some (.lst zs) → tyS M (.ptr p) = some "list" := fun {p zs} h => by unfold tyS; dsimp only; rw [h]
  walk_at "s"
  walk_at "gt"
  cases hd with
  | non m =>
    refine QB.mk ⟨fun c => (by cases c), fun _ => ?_⟩
    refine sb_nil ?_
    walk_at "go"
    refine rb_isi (t := "NoneType") (k := false) rfl (by decide +kernel) (QB.mk ⟨fun c => (by cases c), fun _ => ?_⟩)
    refine sb_nil ?_
    walk_at "go"
    exact ⟨M, Sub.refl, atom (.non m)⟩
  | bl m b =>
    refine QB.mk ⟨fun c => (by cases c), fun _ => ?_⟩
    refine sb_nil ?_
    walk_at "go"
    refine rb_isi (t := "bool") (k := false) rfl (by decide +kernel) (QB.mk ⟨fun c => (by cases c), fun _ => ?_⟩)
    refine sb_nil ?_
    walk_at "go"
    exact ⟨M, Sub.refl, atom (.bl m b)⟩
  | int m i hi =>
    refine QB.mk ⟨fun c => (by cases c), fun _ => ?_⟩
    refine sb_nil ?_
    walk_at "go"
    refine rb_isi (t := "int") (k := false) rfl (by decide +kernel) (QB.mk ⟨fun c => (by cases c), fun _ => ?_⟩)
    refine sb_nil ?_
    walk_at "go"
    exact ⟨M, Sub.refl, atom (.int m i hi)⟩
  | str m x hx =>
    refine QB.mk ⟨fun c => (by cases c), fun _ => ?_⟩
    refine sb_nil ?_
    walk_at "go"
    refine rb_isi (t := "str") (k := false) rfl (by decide +kernel) (QB.mk ⟨fun c => (by cases c), fun _ => ?_⟩)
    refine sb_nil ?_
    walk_at "go"
    exact ⟨M, Sub.refl, atom (.str m x hx)⟩
  | @lst m p xs ds hA hp hl hw h =>
    obtain ⟨n, rfl⟩ : ∃ n', n = n' + 1 := ⟨n - 1, by omega⟩
    have Fr' : Fn X.prog X.w X.K X.mg X.base "anew" (n + 1) (C_anew n) := by
      rcases Fr with z | z
      · cases z
      · exact z
    refine QB.mk ⟨fun c => (by cases c), fun _ => ?_⟩
    refine sb_nil ?_
    walk_at "go"
    refine rb_isi (t := "list") (k := true) (tl hp) (by decide +kernel) (QB.mk ⟨fun _ => ?_, fun c => (by cases c)⟩)
    walk_at "s"
    walk_at "gt"
    refine dx_lcR dn d.nd 1 (by decide +kernel) (fun _ => rfl) ?_
    refine si_lst ?_
    walk_at "gt"
    refine ⟨p, xs, rfl, hp, ?_⟩
    refine lc_anew (n := m) hl (by have := wd (m + 1); omega) (fun M' hM => hM _ _ hp) (fun j s d M' es ed hM s0 H0 C0 cl0 fp0 dn1 => ?_) fun D acc M' A hD ha hM hA' eD hd => ?_
    · have hda := (h j s d es ed).sub hM
      have ks := hda.kn
      refine se_if ?_
      refine st_val ?_ (fun _ => rfl)
      refine dn_callB dn1 T.isinstance bf_isinstance (by decide +kernel) (by decide) (by decide) rfl rfl ?_
      refine sa_cons (dn_name dn1 1 (by decide +kernel) rfl ?_)
      refine sa_cons (dn_ty dn1 T.int bt_int (by decide +kernel) (by decide) (by decide) ?_)
      refine sa_nil ?_
      refine rb_isInt ks ?_
      refine QB.mk ⟨fun c => ?_, fun c => ?_⟩
      · refine dn_name dn1 1 (by decide +kernel) rfl ?_
        refine ⟨fun _ => False, Sub.refl, (fun p hp => hp.elim), ?_⟩
        cases hda with
        | int m i hi2 => exact .int m i hi2
        | bl m b => exact .bl m b
        | non => cases c
        | str => cases c
        | tup => cases c
        | lst => cases c
      · refine dn_call dn1 Fr' (by decide +kernel) (by omega) (by decide) rfl rfl ?_
        refine sa_cons (dn_name dn1 1 (by decide +kernel) rfl (sa_nil ?_))
        exact ⟨_, m, d, A0, rfl, by omega, hda, fun s' M2 A s2 hA2 h2 => ⟨A, s2, hA2, h2⟩⟩
    · refine ⟨M', Sub.refl, q _ _ (fun p => A p ∨ p = D) hM (fun p hp => ?_) (.lst (.inr rfl) eD ha (by omega) fun k x d hx hd2 => (hd k x d hx hd2).frame (fun _ _ _ z => z) fun _ z => .inl z)⟩
      rcases hp with z | rfl
      · exact hA' p z
      · exact hD
  | @tup m xs ds hl hw h =>
    obtain ⟨n, rfl⟩ : ∃ n', n = n' + 1 := ⟨n - 1, by omega⟩
    have Fr' : Fn X.prog X.w X.K X.mg X.base "anew" (n + 1) (C_anew n) := by
      rcases Fr with z | z
      · cases z
      · exact z
    refine QB.mk ⟨fun _ => ?_, fun c => (by cases c)⟩
    have kx := kn_items hk
    refine sb_cons ?_
    refine dx_for d (fun _ => rfl) ?_
    refine si_tup ?_
    walk_at "go"
    refine ⟨_, rfl, fun i v' M' => M' = M ∧ (∀ j s, j < i → xs[j]? = some s → (isInt s || isBl s) = true) ∧ ∃ y1, v' = [some (.tup xs), y1, none], ⟨rfl, (fun j s h => by omega), none, rfl⟩, fun _ _ _ _ => True.intro, ?_, ?_⟩
    · rintro i s v' M' ex ⟨rfl, hall, y1, rfl⟩
      have ks := kx s (List.mem_of_getElem? ex)
      refine dx_tgt d 1 l1 ?_
      show SSs _ G _ [some (.tup xs), some s, none] M' _
      walk_at "go"
      refine QB.mk ⟨fun c => ?_, fun c => ?_⟩
      · walk_at "s"
        walk_at "gt"
        refine dx_lcR dn d.nd 2 (by decide +kernel) (fun _ => rfl) ?_
        refine si_tup ?_
        walk_at "gt"
        refine ⟨_, rfl, ?_⟩
        refine lc_anew (n := m) hl (by have := wd (m + 1); omega) (fun _ _ => True.intro) (fun j s d M2 es ed hM s0 H0 C0 cl0 fp0 dn1 => ?_) fun D acc M2 A hD ha hM hA' eD hd => ?_
        · refine dn_call dn1 Fr' (by decide +kernel) (by omega) (by decide) rfl rfl ?_
          refine sa_cons (dn_name dn1 2 (by decide +kernel) rfl (sa_nil ?_))
          exact ⟨_, m, d, A0, rfl, by omega, (h j s d es ed).sub hM, fun s' M3 A s2 hA2 h2 => ⟨A, s2, hA2, h2⟩⟩
        · walk_at "gt"
          refine rb_tupleL eD ?_
          exact ⟨M2, Sub.refl, q _ _ A hM hA' (.tup ha (by omega) hd)⟩
      refine sb_nil ?_
      refine ⟨rfl, fun j s' hj hs => ?_, _, rfl⟩
      by_cases e : j = i
      · subst e
        rw [ex] at hs
        cases hs
        revert c
        cases (isInt s || isBl s) <;> simp
      · exact hall j s' (by omega) hs
    · rintro v' M' ⟨rfl, hall, y1, rfl⟩
      walk_at "s"
      walk_at "gt"
      refine sa_star ?_ rfl
      walk_at "gt"
      refine ⟨xs, its_tup, ?_⟩
      refine sa_nil ?_
      rw [List.append_nil]
      refine ⟨by have := wd (m + 1); omega, M', Sub.refl, ?_⟩
      refine q _ _ (fun _ => False) Sub.refl (fun p hp => hp.elim) (.tup hl hw fun k x d hx hd2 => ?_)
      have hi := hall k x (List.getElem?_eq_some_iff.mp hx).1 hx
      have hda := h k x d hx hd2
      cases hda with
      | int m i hi2 => exact .int m i hi2
      | bl m b => exact .bl m b
      | non => cases hi
      | str => cases hi
      | tup => cases hi
      | lst => cases hi
theorem sc_check_picture : FnScope ["picture"] ["picture"] (defScope s_check_picture) := ⟨rfl, rfl, rfl, by decide +kernel, rfl, by decide +kernel, by decide +kernel⟩
theorem ok_check_picture {f : Addr} {fd : FuncData} (F : Fun K "check_picture" "check_picture" s_check_picture f fd) (TI : PySem.ShX.ShTxt K mg "InvalidPicture" cI fI) (F_is_picture : Fn P w K mg base "is_picture" 2 C_is_picture) (F_anew : Fn P w K mg base "anew" 7 (C_anew 6)) : FnOk P w K mg base (L2.CX P w) 8 f fd ["picture"] (SpC K (C_check_picture cI)) := by
  refine def_ok F sc_check_picture (fun ss M Q E h => ?_) (fun X G eP ew eK em eb d ss M Q E h wi => ?_)
  · obtain ⟨s, rfl, hk, qt, qf⟩ := h; rfl
  subst eP ew eK em eb
  have dn := d.dn
  have n0 : nmB ["picture"] (defScope s_check_picture) 0 "picture" = true := by decide +kernel
  have g_is_picture : glB (defScope s_check_picture) "is_picture" = true := by decide +kernel
  have g_InvalidPicture : glB (defScope s_check_picture) "InvalidPicture" = true := by decide +kernel
  have g_anew : glB (defScope s_check_picture) "anew" = true := by decide +kernel
  obtain ⟨s, rfl, hk, qt, qf⟩ := h
  conv => pattern (defBody _); whnf
  show SSs X G _ [some s] M _
  walk_at "go"
  refine ⟨_, rfl, hk, QB.mk ⟨fun c => ?_, fun c => ?_⟩⟩
  · refine sb_one ?_
    refine ss_raise TI d.calm d.room wi (gl_of dn g_InvalidPicture) rfl ?_
    walk_at "go"
    obtain ⟨n, dt, A0, hn, hd, k⟩ := qf (by simpa using c)
    exact ⟨s, n, dt, A0, rfl, hn, hd, k⟩
  · exact sb_nil (qt (by simpa using c))
theorem sc_check_depth : FnScope ["depth"] ["depth"] (defScope s_check_depth) := ⟨rfl, rfl, rfl, by decide +kernel, rfl, by decide +kernel, by decide +kernel⟩
theorem ok_check_depth {f : Addr} {fd : FuncData} (F : Fun K "check_depth" "check_depth" s_check_depth f fd) (TD : PySem.ShX.ShTxt K mg "InvalidDepth" cD fD) : FnOk P w K mg base (L2.CX P w) 1 f fd ["depth"] (SpC K (C_check_depth cD)) := by
  refine def_ok F sc_check_depth (fun ss M Q E h => ?_) (fun X G eP ew eK em eb d ss M Q E h wi => ?_)
  · obtain ⟨x, rfl, q0, q1⟩ := h; rfl
  subst eP ew eK em eb
  have dn := d.dn
  have n0 : nmB ["depth"] (defScope s_check_depth) 0 "depth" = true := by decide +kernel
  have g_InvalidDepth : glB (defScope s_check_depth) "InvalidDepth" = true := by decide +kernel
  obtain ⟨x, rfl, q0, q1⟩ := h
  conv => pattern (defBody _); whnf
  show SSs X G _ [some (.int x)] M _
  walk_at "go"
  refine QB.mk ⟨fun c => ?_, fun c => ?_⟩
  · refine sb_one ?_
    refine ss_raise TD d.calm d.room wi (gl_of dn g_InvalidDepth) rfl ?_
    walk_at "go"
    exact q1 (of_decide_eq_true c)
  · have z : ¬ x < 0 := of_decide_eq_false c
    exact sb_nil (q0 (by omega))
end

end Sy

set_option Elab.async false
set_option linter.all false
set_option maxRecDepth 100000
set_option maxHeartbeats 1000000
namespace Sy
open PySem PySem.Spec PyProof.Rows L2
local macro_rules | `(tactic| walk_at "nm") => `(tactic| ((with_reducible refine' dn_name ?d _ ?h ?he ?q); (case d => assumption); (case h => with_reducible assumption); (case he => rfl)))
local macro_rules | `(tactic| walk_at "cn") => `(tactic| first | with_reducible refine se_int ?_ | with_reducible refine se_bl ?_ | with_reducible refine se_non ?_ | with_reducible refine se_str ?_)
local macro_rules | `(tactic| walk_at "ct") => `(tactic| ((with_reducible refine' dn_callT ?d ?m ?v ?g ?n ?db ?st ?pl ?q); (case d => assumption); (case m => with_reducible assumption); (case v => first | with_reducible exact bt_int | with_reducible exact bt_tuple | with_reducible exact bt_list | with_reducible exact bt_str | with_reducible exact bt_bool); (case g => with_reducible assumption); (case n => decide); (case db => decide); (case st => rfl); (case pl => rfl)))
local macro_rules | `(tactic| walk_at "cb") => `(tactic| ((with_reducible refine' dn_callB ?d ?m ?v ?g ?n ?db ?st ?pl ?q); (case d => assumption); (case m => with_reducible assumption); (case v => first | with_reducible exact bf_len | with_reducible exact bf_isinstance | with_reducible exact bf_all | with_reducible exact bf_max | with_reducible exact bf_min | with_reducible exact bf_abs | with_reducible exact bf_sum | with_reducible exact bf_any | with_reducible exact bf_repr); (case g => with_reducible assumption); (case n => decide); (case db => decide); (case st => rfl); (case pl => rfl)))
local macro_rules | `(tactic| walk_at "cf") => `(tactic| ((with_reducible refine' dn_call ?d ?F ?g ?k ?db ?st ?pl ?q); (case d => assumption); (case F => with_reducible assumption); (case g => with_reducible assumption); (case k => decide); (case db => decide); (case st => rfl); (case pl => rfl)))
local macro_rules | `(tactic| walk_at "tv") => `(tactic| ((with_reducible refine' dn_ty ?d ?m ?v ?g ?n ?db ?q); (case d => assumption); (case m => with_reducible assumption); (case v => first | with_reducible exact bt_int | with_reducible exact bt_tuple | with_reducible exact bt_list | with_reducible exact bt_str | with_reducible exact bt_bool); (case g => with_reducible assumption); (case n => decide); (case db => decide)))
local macro_rules | `(tactic| walk_at "ck") => `(tactic| ((with_reducible refine' dn_kw ?d ?F ?g ?k ?db ?a ?ks ?pl ?q); (case d => assumption); (case F => with_reducible assumption); (case g => with_reducible assumption); (case k => decide); (case db => decide); (case a => rfl); (case ks => rfl); (case pl => rfl)))
local macro_rules | `(tactic| walk_at "e") => `(tactic| first | walk_at "nm" | walk_at "cn" | with_reducible refine se_bin ?_ | ((with_reducible refine' se_cmp ?q ?st); (case st => first | exact nomark _ | rfl)) | ((with_reducible refine' se_ix ?q ?st); (case st => exact fun _ _ => rfl)) | with_reducible refine sa_nil ?_ | ((with_reducible refine' sa_cons ?q ?st); (case st => rfl)) | walk_at "cf" | walk_at "ck" | with_reducible refine sk_nil ?_ | with_reducible refine sk_cons ?_ | walk_at "cb" | walk_at "ct" | walk_at "tv" | with_reducible refine se_one ?_ | ((with_reducible refine' se_chain ?q ?st); (case st => with_unfolding_all rfl)) | with_reducible refine se_tup ?_ | with_reducible refine se_lst ?_ | with_reducible refine se_and ?_ | with_reducible refine se_or ?_ | with_reducible refine se_not ?_ | with_reducible refine se_un ?_ )
local macro_rules | `(tactic| walk_at "v") => `(tactic| first | with_reducible refine ro_addI ?_ | with_reducible refine rc_isIB ?_ | with_reducible refine rc_eqB ?_ | with_reducible refine rc_neB ?_ | with_reducible refine rc_isN ?_ | with_reducible refine rc_notN ?_ | with_reducible refine ro_subI ?_ | with_reducible refine rc_eqI ?_ | with_reducible refine rc_neI ?_ | with_reducible refine rc_ltI ?_ | with_reducible refine rc_leI ?_ | with_reducible refine rc_gtI ?_ | with_reducible refine rc_geI ?_ | with_reducible refine rb_intI ?_ | with_reducible refine ru_neg ?_ | with_reducible refine rb_tupleT ?_ | ((with_reducible refine rb_isInt ?h ?q); (case h => assumption)) | ((with_reducible refine rb_isBool ?h ?q); (case h => assumption)) | ((with_reducible refine rb_isTup ?h ?q); (case h => assumption)) | with_reducible refine rb_len its_tup ?_ | (refine rx_tup (by rfl) ?_) | ((with_reducible refine' rx_lst ?h ?a ?q); (case h => with_reducible assumption); (case a => rfl)))
local macro_rules | `(tactic| walk_at "ss") => `(tactic| first | with_reducible refine ss_ret (se_fg ?_) | with_reducible refine ss_if ?_ | ((with_reducible refine' ss_expr ?q ?st); (case st => rfl)) | ((with_reducible refine' dx_set ?d _ ?h ?hs ?q); (case d => assumption); (case h => with_reducible assumption); (case hs => rfl)) | ((with_reducible refine' ss_asg (tg := .Tuple _ _ _) ?q ?hs ?hw ?h1); (case hs => rfl); (case hw => rfl); (case h1 => rfl)))
local macro_rules | `(tactic| walk_at "s") => `(tactic| first | with_reducible refine sb_one ?_ | with_reducible refine sb_cons ?_ | walk_at "ss")
local macro_rules | `(tactic| walk_at "t") => `(tactic| first | with_reducible refine st_not ?_ | ((with_reducible refine' st_cmp ?q ?st); (case st => first | exact nomark _ | rfl)) | with_reducible refine sw_and1 ?_ | with_reducible refine sw_or1 ?_ | with_reducible refine sw_or ?_ | with_reducible refine sw_and ?_ | ((with_reducible refine' st_chain ?q ?st); (case st => with_unfolding_all rfl)) | (refine st_of ?_; first | with_reducible refine sw_or ?_ | with_reducible refine sw_and ?_) | ((with_reducible refine' st_val ?q ?st); (case st => intro _; rfl)))
local macro_rules | `(tactic| walk_at "go") => `(tactic| repeat (first | walk_at "e" | walk_at "v" | walk_at "s" | walk_at "t"))
local macro_rules | `(tactic| walk_at "gt") => `(tactic| repeat (first | walk_at "e" | walk_at "v" | walk_at "ss" | walk_at "t"))
local macro_rules | `(tactic| walk_at "gx") => `(tactic| repeat (first | walk_at "e" | walk_at "v" | walk_at "ss" | walk_at "t" | refine ⟨by simp only [List.length_cons, List.length_nil]; decide, ?_⟩))
local macro_rules | `(tactic| walk_at "tg") => `(tactic| repeat (first | ((with_reducible refine' sg_tup ?q ?hc ?hn ?st); (case hc => exact DX.calm (by assumption)); (case hn => rfl); (case st => rfl)) | (refine sgs_cons ?_) | with_reducible refine sgs_nil ?_ | ((refine dx_tgt (by assumption) _ (by with_reducible assumption) ?_))))
--@@def ink 1 | C_ink | (T : Txt mg)
--@@def drip 1 | C_drip | (T : Txt mg)
theorem small1000 {n : Nat} (h : n ≤ 1000) : n < sizeLine := by
  have hz : (sizeLine : Nat) = 16777216 := sizeLine_eq
  omega
def intOf : S → Int
  | .int i => i
  | _ => 0
def C_drip : Con := fun ss M Q _ => ∃ p m n, ss = [.ptr p, .int m] ∧ Ink M p n ∧ n ≤ 2 ^ 50 ∧ 1 ≤ m ∧ m < 2 ^ 200 ∧ ∀ r M', 0 ≤ r → r < m → Sx p (n + 1) M [] M' → Q (.int r) M'
theorem drip_go {p : Addr} {m : Int} {n : Nat} {M0 M : Mem} {C : List (Addr × MO)} {Q : QS} (s : Sx p n M0 C M) (hn : n ≤ 1125899906842624) (h1 : 1 ≤ m) (h2 : m < 2 ^ 200) (k : ∀ r M', 0 ≤ r → r < m → Sx p (n + 1) M0 C M' → Q (.int r) M') : C_drip [.ptr p, .int m] M Q E0c :=
  ⟨p, m, n, rfl, s.ink, by have e : (2 : Nat) ^ 50 = 1125899906842624 := by decide
                           omega, h1, h2, fun r M' a b t => k r M' a b (s.call t)⟩
theorem natAbs_lt {i : Int} {a : Nat} (h0 : 0 ≤ i) (h : i < 2 ^ a) : i.natAbs < 2 ^ a := by
  have e : ((2 ^ a : Nat) : Int) = (2 : Int) ^ a := by simp
  omega
section
variable {P : Program} {w : World} {K : PySem.W.Frag} {mg : Str → Option Value} {base : Heap}
theorem sc_drip : FnScope ["_law_ink_here", "_law_many", "_law_drop", "_law_mixed"] ["_law_ink_here", "_law_many"] (defScope s_drip) := ⟨rfl, rfl, rfl, by decide +kernel, rfl, by decide +kernel, by decide +kernel⟩
theorem ok_drip {f : Addr} {fd : FuncData} (F : Fun K "_law_drip" "_law_drip" s_drip f fd) (T : Txt mg) : FnOk P w K mg base (L2.CX P w) 1 f fd ["_law_ink_here", "_law_many"] (SpC K C_drip) := by
  refine def_ok F sc_drip (fun ss M Q E h => ?_) (fun X G eP ew eK em eb d ss M Q E h wi => ?_)
  · obtain ⟨p, m, n, rfl, _⟩ := h; rfl
  subst eP ew eK em eb
  have dn := d.dn
  have n0 : nmB ["_law_ink_here", "_law_many", "_law_drop", "_law_mixed"] (defScope s_drip) 0 "_law_ink_here" = true := by decide +kernel
  have n1 : nmB ["_law_ink_here", "_law_many", "_law_drop", "_law_mixed"] (defScope s_drip) 1 "_law_many" = true := by decide +kernel
  have n2 : nmB ["_law_ink_here", "_law_many", "_law_drop", "_law_mixed"] (defScope s_drip) 2 "_law_drop" = true := by decide +kernel
  have n3 : nmB ["_law_ink_here", "_law_many", "_law_drop", "_law_mixed"] (defScope s_drip) 3 "_law_mixed" = true := by decide +kernel
  have l2 : lcB ["_law_ink_here", "_law_many", "_law_drop", "_law_mixed"] (defScope s_drip) 2 "_law_drop" = true := by decide +kernel
  have l3 : lcB ["_law_ink_here", "_law_many", "_law_drop", "_law_mixed"] (defScope s_drip) 3 "_law_mixed" = true := by decide +kernel
  have g_int : glB (defScope s_drip) "int" = true := by decide +kernel
  have t1 := T.len
  have t2 := T.isinstance
  have t3 := T.all
  have t4 := T.int
  have t5 := T.bool
  have t6 := T.tuple
  have t10 := T.list
  have t7 := T.sum
  have t8 := T.max
  have t11 := T.min
  have t9 := T.abs
  have t12 := T.range
  have t13 := T.zip
  obtain ⟨p, m, n, rfl, ⟨a, b, c, hp, ⟨ha0, ha1⟩, ⟨hb0, hb1⟩, hc0, hc1⟩, hn, hm1, hm2, q⟩ := h
  have hmN : m.natAbs < 2 ^ 200 := natAbs_lt (by omega) hm2
  conv => pattern (defBody _); whnf
  show SSs X G _ [some (.ptr p), some (.int m), none, none] M _
  walk_at "go"
  refine QB.mk ⟨fun c1 => ?_, fun c1 => ?_⟩
  · have hpos : 0 < a := of_decide_eq_true c1
    walk_at "go"
    refine ro_modI (by omega) ?_
    refine sb_cons ?_
    refine ss_asg ?_
    walk_at "go"
    refine ro_divI (by omega) hmN (by decide) (by decide) ?_
    refine sg_item ?_
    walk_at "go"
    refine ⟨p, _, 0, 0, rfl, rfl, hp, rfl, ?_⟩
    walk_at "go"
    refine ⟨_, Sub.refl, q _ _ (Int.emod_nonneg _ (by omega)) (Int.emod_lt_of_pos _ (by omega)) (Sx.but ⟨a / m, b, c, updM_same, ⟨Int.ediv_nonneg (by omega) (by omega), ?_⟩, ⟨hb0, hb1⟩, hc0, by omega⟩ But.put)⟩
    have h1 : a / m ≤ a := Int.ediv_le_self _ ha0
    have h0 : 0 ≤ a / m := Int.ediv_nonneg (by omega) (by omega)
    omega
  refine sb_nil ?_
  refine sb_cons ?_
  refine ss_asg ?_
  walk_at "go"
  refine sg_item ?_
  walk_at "go"
  refine ⟨p, _, 2, 2, rfl, rfl, hp, rfl, ?_⟩
  have hp2 : (updM M p (.lst [.int a, .int b, .int (c + 1)])) p = some (.lst [.int a, .int b, .int (c + 1)]) := updM_same
  show SSs X G _ [some (.ptr p), some (.int m), none, none] (updM M p (.lst [.int a, .int b, .int (c + 1)])) _
  have eP : (2 : Int) ^ 90 = 1237940039285380274899124224 := by decide
  have eN : (2 : Int) ^ 50 = 1125899906842624 := by decide
  have hn' : (n : Int) ≤ 1125899906842624 := by omega
  walk_at "go"
  refine ro_mulI (.inl ⟨by decide, by decide⟩) ?_
  walk_at "go"
  refine ro_powI (k := 3) (a := 92) (natAbs_lt (by omega) (by omega)) (by decide) (by decide) ?_
  walk_at "go"
  refine ro_powI (k := 29) (a := 8) (by decide) (by decide) (by decide) ?_
  walk_at "go"
  have e29 : (10 : Int) ^ 29 + 319 = 100000000000000000000000000319 := by decide
  refine ro_modI (by omega) ?_
  generalize hx : (b + 32452867 * (c + 1)) ^ 3 % (10 ^ 29 + 319) = x
  have hx0 : 0 ≤ x := by rw [← hx]; exact Int.emod_nonneg _ (by omega)
  have hx1 : x < 100000000000000000000000000319 := by rw [← hx, ← e29]; exact Int.emod_lt_of_pos _ (by omega)
  walk_at "go"
  refine ro_mulW (a := 97) (b := 98) (natAbs_lt hx0 (by have : (2 : Int) ^ 97 = 158456325028528675187087900672 := by decide
                                                        omega)) (natAbs_lt (by omega) (by have : (2 : Int) ^ 98 = 316912650057057350374175801344 := by decide
                                                                                          omega)) (by decide) ?_
  walk_at "go"
  refine ro_powI (k := 28) (a := 8) (by decide) (by decide) (by decide) ?_
  walk_at "go"
  have e28 : (10 : Int) ^ 28 + 331 = 10000000000000000000000000331 := by decide
  refine ro_modI (by omega) ?_
  walk_at "go"
  refine ro_divI (b := 20) (by decide) (by decide) (by decide) (by decide) ?_
  walk_at "go"
  refine ro_modI (by omega) ?_
  exact ⟨_, Sub.refl, q _ _ (Int.emod_nonneg _ (by omega)) (Int.emod_lt_of_pos _ (by omega)) (Sx.but ⟨a, b, c + 1, updM_same, ⟨ha0, ha1⟩, ⟨hb0, hb1⟩, by omega, by omega⟩ But.put)⟩
end
def scB : Nat := 1048576
theorem two_le : (2 : Nat) ^ scB ≤ 2 ^ inkB := Nat.pow_le_pow_right (by decide) (by decide)
theorem small_le : 1000000 < (2 : Nat) ^ inkB := Nat.lt_of_lt_of_le (by decide : 1000000 < 2 ^ 20) (Nat.pow_le_pow_right (by decide) (by decide))
def C_ink : Con := fun ss M Q _ => ∃ (ns : List Int) (k : Int), ss = [.rdl (ns.map S.int), .int k] ∧ 0 ≤ k ∧ k ≤ 1000 ∧ ns.length ≤ 63 ∧ (∀ n, n ∈ ns → n.natAbs < 2 ^ scB) ∧ ∀ p M', M p = none → Ink M' p 0 → But p M M' → Q (.ptr p) M'
section
variable {P : Program} {w : World} {K : PySem.W.Frag} {mg : Str → Option Value} {base : Heap}
theorem sc_ink : FnScope ["_law_script", "_law_k", "_law_cell", "_law_other", "_law_total", "_law_mixed"] ["_law_script", "_law_k"] (defScope s_ink) := ⟨rfl, rfl, rfl, by decide +kernel, rfl, by decide +kernel, by decide +kernel⟩
theorem ok_ink {f : Addr} {fd : FuncData} (F : Fun K "_law_ink" "_law_ink" s_ink f fd) (T : Txt mg) : FnOk P w K mg base (L2.CX P w) 1 f fd ["_law_script", "_law_k"] (SpC K C_ink) := by
  refine def_ok F sc_ink (fun ss M Q E h => ?_) (fun X G eP ew eK em eb d ss M Q E h wi => ?_)
  · obtain ⟨ns, k, rfl, _⟩ := h; rfl
  subst eP ew eK em eb
  have dn := d.dn
  have n0 : nmB ["_law_script", "_law_k", "_law_cell", "_law_other", "_law_total", "_law_mixed"] (defScope s_ink) 0 "_law_script" = true := by decide +kernel
  have n1 : nmB ["_law_script", "_law_k", "_law_cell", "_law_other", "_law_total", "_law_mixed"] (defScope s_ink) 1 "_law_k" = true := by decide +kernel
  have n2 : nmB ["_law_script", "_law_k", "_law_cell", "_law_other", "_law_total", "_law_mixed"] (defScope s_ink) 2 "_law_cell" = true := by decide +kernel
  have n4 : nmB ["_law_script", "_law_k", "_law_cell", "_law_other", "_law_total", "_law_mixed"] (defScope s_ink) 4 "_law_total" = true := by decide +kernel
  have n5 : nmB ["_law_script", "_law_k", "_law_cell", "_law_other", "_law_total", "_law_mixed"] (defScope s_ink) 5 "_law_mixed" = true := by decide +kernel
  have l2 : lcB ["_law_script", "_law_k", "_law_cell", "_law_other", "_law_total", "_law_mixed"] (defScope s_ink) 2 "_law_cell" = true := by decide +kernel
  have l4 : lcB ["_law_script", "_law_k", "_law_cell", "_law_other", "_law_total", "_law_mixed"] (defScope s_ink) 4 "_law_total" = true := by decide +kernel
  have l5 : lcB ["_law_script", "_law_k", "_law_cell", "_law_other", "_law_total", "_law_mixed"] (defScope s_ink) 5 "_law_mixed" = true := by decide +kernel
  have g1 : glB (defScope s_ink) "int" = true := by decide +kernel
  have g2 : glB (defScope s_ink) "sum" = true := by decide +kernel
  have g3 : glB (defScope s_ink) "max" = true := by decide +kernel
  have g4 : glB (defScope s_ink) "abs" = true := by decide +kernel
  have g5 : glB (defScope s_ink) "len" = true := by decide +kernel
  have t1 := T.len
  have t2 := T.isinstance
  have t3 := T.all
  have t4 := T.int
  have t5 := T.bool
  have t6 := T.tuple
  have t10 := T.list
  have t7 := T.sum
  have t8 := T.max
  have t11 := T.min
  have t9 := T.abs
  have t12 := T.range
  have t13 := T.zip
  obtain ⟨ns, k, rfl, k0, k1, hl, hb, q⟩ := h
  conv => pattern (defBody _); whnf
  show SSs X G _ [some (.rdl (ns.map S.int)), some (.int k), none, none, none, none] M _
  walk_at "go"
  refine ro_mulI (.inl ⟨by decide, by decide⟩) ?_
  walk_at "go"
  refine rb_len its_rdl ?_
  walk_at "gt"
  show SSs X G _ [some (.rdl (ns.map S.int)), some (.int k), some (.int (31 * k + 7 + ((ns.map S.int).length : Int))), none, none, none] M _
  rw [List.length_map]
  refine sb_cut (fun env' M' => M' = M ∧ ∃ c : Int, env' = [some (.rdl (ns.map S.int)), some (.int k), some (.int c), none, none, none] ∧ c.natAbs < 2 ^ inkB) ?_ ?_
  · walk_at "go"
    refine rb_len its_rdl ?_
    walk_at "go"
    rw [List.length_map]
    refine QB.mk ⟨fun c => ?_, fun c => ?_⟩
    · have hk : k < ns.length := of_decide_eq_true c
      have hk2 : k.toNat < ns.length := by omega
      have ek : ((k.toNat : Nat) : Int) = k := by omega
      walk_at "go"
      have z : atI (ns.map S.int) ((k.toNat : Nat) : Int) = some (.int ns[k.toNat]) := atI_nat (by rw [List.getElem?_map, List.getElem?_eq_getElem hk2]; rfl)
      rw [ek] at z
      refine rx_rdl z ?_
      exact ⟨rfl, _, rfl, Nat.lt_of_lt_of_le (hb _ (List.getElem_mem hk2)) two_le⟩
    · refine sb_nil ?_
      refine ⟨rfl, _, rfl, Nat.lt_of_le_of_lt ?_ small_le⟩
      omega
  rintro env' M' ⟨rfl, c, rfl, hc⟩
  walk_at "go"
  refine dx_map dn d.nd 3 (by decide +kernel) (fun _ => rfl) ?_
  refine si_rdl ?_
  walk_at "go"
  refine ⟨_, rfl, fun s => .int (intOf s % (10 ^ 21 + 117)), small1000 (by rw [List.length_map]; omega), fun _ _ => True.intro, fun D1 M1 hD hM s hs s0 H0 C0 cl0 fp0 dn1 => ?_, fun D1 M1 hD hM eD => ?_⟩
  · obtain ⟨n, hn, rfl⟩ := List.mem_map.mp hs
    walk_at "go"
    refine dn_callT dn1 t4 bt_int (by decide +kernel) (by decide) (by decide) rfl rfl ?_
    refine sa_cons ?_
    refine dn_name dn1 3 (by decide +kernel) rfl ?_
    walk_at "go"
    refine ro_powI (k := 21) (a := 8) (by decide) (by decide) (by decide) ?_
    walk_at "go"
    exact ro_modI (by decide) ⟨rfl, Sub.refl⟩
  have e : (ns.map S.int).map (fun s => S.int (intOf s % (10 ^ 21 + 117))) = (ns.map fun n => n % (10 ^ 21 + 117)).map S.int := by rw [List.map_map, List.map_map]; rfl
  rw [e] at eD
  walk_at "go"
  refine rb_sum eD ?_ d.calm
  generalize hT : (ns.map fun n => n % (10 ^ 21 + 117)).sum = tot
  walk_at "go"
  refine ro_mulI (.inr ⟨by decide, by decide⟩) ?_
  walk_at "go"
  refine ro_mulI (.inr ⟨by decide, by decide⟩) ?_
  walk_at "go"
  refine ro_mulI (.inr ⟨by decide, by decide⟩) ?_
  walk_at "go"
  refine ro_powI (k := 27) (a := 8) (by decide) (by decide) (by decide) ?_
  walk_at "go"
  refine ro_modI (by decide) ?_
  generalize hx : (c * 15485867 + tot * 2750159 + k * 7368787) % (10 ^ 27 + 103) = x
  have hx0 : 0 ≤ x := by rw [← hx]; exact Int.emod_nonneg _ (by decide)
  have hx1 : x < 10 ^ 27 + 103 := by rw [← hx]; exact Int.emod_lt_of_pos _ (by decide)
  have e27 : (10 : Int) ^ 27 + 103 = 1000000000000000000000000103 := by decide
  have e90 : (2 : Int) ^ 90 = 1237940039285380274899124224 := by decide
  walk_at "go"
  refine rb_abs ?_
  walk_at "go"
  refine ro_powI (k := 18) (a := 8) (by decide) (by decide) (by decide) ?_
  walk_at "go"
  refine rb_max ?_ d.calm
  walk_at "go"
  refine ⟨by simp only [List.length_cons, List.length_nil]; decide, fun p hp => ⟨updM M' p _, (hM.put p _), q p _ (hM.free hp) ⟨_, x, 0, updM_same, ?_, ⟨hx0, by omega⟩, by omega, by omega⟩ But.put⟩⟩
  have h18 : (0 : Int) ≤ 10 ^ 18 := by decide
  generalize (10 : Int) ^ 18 = y at h18 ⊢
  constructor
  · split <;> omega
  · split <;> split <;> omega
end

end Sy

set_option Elab.async false
set_option linter.all false
set_option maxRecDepth 100000
set_option maxHeartbeats 1000000
namespace Sy
open PySem PySem.Spec PyProof.Rows L2
local macro_rules | `(tactic| walk_at "nm") => `(tactic| ((with_reducible refine' dn_name ?d _ ?h ?he ?q); (case d => assumption); (case h => with_reducible assumption); (case he => rfl)))
local macro_rules | `(tactic| walk_at "cn") => `(tactic| first | with_reducible refine se_int ?_ | with_reducible refine se_bl ?_ | with_reducible refine se_non ?_ | with_reducible refine se_str ?_)
local macro_rules | `(tactic| walk_at "ct") => `(tactic| ((with_reducible refine' dn_callT ?d ?m ?v ?g ?n ?db ?st ?pl ?q); (case d => assumption); (case m => with_reducible assumption); (case v => first | with_reducible exact bt_int | with_reducible exact bt_tuple | with_reducible exact bt_list | with_reducible exact bt_str | with_reducible exact bt_bool); (case g => with_reducible assumption); (case n => decide); (case db => decide); (case st => rfl); (case pl => rfl)))
local macro_rules | `(tactic| walk_at "cb") => `(tactic| ((with_reducible refine' dn_callB ?d ?m ?v ?g ?n ?db ?st ?pl ?q); (case d => assumption); (case m => with_reducible assumption); (case v => first | with_reducible exact bf_len | with_reducible exact bf_isinstance | with_reducible exact bf_all | with_reducible exact bf_max | with_reducible exact bf_min | with_reducible exact bf_abs | with_reducible exact bf_sum | with_reducible exact bf_any | with_reducible exact bf_repr); (case g => with_reducible assumption); (case n => decide); (case db => decide); (case st => rfl); (case pl => rfl)))
local macro_rules | `(tactic| walk_at "cf") => `(tactic| ((with_reducible refine' dn_call ?d ?F ?g ?k ?db ?st ?pl ?q); (case d => assumption); (case F => with_reducible assumption); (case g => with_reducible assumption); (case k => decide); (case db => decide); (case st => rfl); (case pl => rfl)))
local macro_rules | `(tactic| walk_at "tv") => `(tactic| ((with_reducible refine' dn_ty ?d ?m ?v ?g ?n ?db ?q); (case d => assumption); (case m => with_reducible assumption); (case v => first | with_reducible exact bt_int | with_reducible exact bt_tuple | with_reducible exact bt_list | with_reducible exact bt_str | with_reducible exact bt_bool); (case g => with_reducible assumption); (case n => decide); (case db => decide)))
local macro_rules | `(tactic| walk_at "ck") => `(tactic| ((with_reducible refine' dn_kw ?d ?F ?g ?k ?db ?a ?ks ?pl ?q); (case d => assumption); (case F => with_reducible assumption); (case g => with_reducible assumption); (case k => decide); (case db => decide); (case a => rfl); (case ks => rfl); (case pl => rfl)))
local macro_rules | `(tactic| walk_at "e") => `(tactic| first | walk_at "nm" | walk_at "cn" | with_reducible refine se_bin ?_ | ((with_reducible refine' se_cmp ?q ?st); (case st => first | exact nomark _ | rfl)) | ((with_reducible refine' se_ix ?q ?st); (case st => exact fun _ _ => rfl)) | with_reducible refine sa_nil ?_ | ((with_reducible refine' sa_cons ?q ?st); (case st => rfl)) | walk_at "cf" | walk_at "ck" | with_reducible refine sk_nil ?_ | with_reducible refine sk_cons ?_ | walk_at "cb" | walk_at "ct" | walk_at "tv" | with_reducible refine se_one ?_ | ((with_reducible refine' se_chain ?q ?st); (case st => with_unfolding_all rfl)) | with_reducible refine se_tup ?_ | with_reducible refine se_lst ?_ | with_reducible refine se_and ?_ | with_reducible refine se_or ?_ | with_reducible refine se_not ?_ | with_reducible refine se_un ?_ )
local macro_rules | `(tactic| walk_at "v") => `(tactic| first | with_reducible refine ro_addI ?_ | with_reducible refine rc_isIB ?_ | with_reducible refine rc_eqB ?_ | with_reducible refine rc_neB ?_ | with_reducible refine rc_isN ?_ | with_reducible refine rc_notN ?_ | with_reducible refine ro_subI ?_ | with_reducible refine rc_eqI ?_ | with_reducible refine rc_neI ?_ | with_reducible refine rc_ltI ?_ | with_reducible refine rc_leI ?_ | with_reducible refine rc_gtI ?_ | with_reducible refine rc_geI ?_ | with_reducible refine rb_intI ?_ | with_reducible refine ru_neg ?_ | with_reducible refine rb_tupleT ?_ | ((with_reducible refine rb_isInt ?h ?q); (case h => assumption)) | ((with_reducible refine rb_isBool ?h ?q); (case h => assumption)) | ((with_reducible refine rb_isTup ?h ?q); (case h => assumption)) | with_reducible refine rb_len its_tup ?_ | (refine rx_tup (by rfl) ?_) | ((with_reducible refine' rx_lst ?h ?a ?q); (case h => with_reducible assumption); (case a => rfl)))
local macro_rules | `(tactic| walk_at "ss") => `(tactic| first | with_reducible refine ss_ret (se_fg ?_) | with_reducible refine ss_if ?_ | ((with_reducible refine' ss_expr ?q ?st); (case st => rfl)) | ((with_reducible refine' dx_set ?d _ ?h ?hs ?q); (case d => assumption); (case h => with_reducible assumption); (case hs => rfl)) | ((with_reducible refine' ss_asg (tg := .Tuple _ _ _) ?q ?hs ?hw ?h1); (case hs => rfl); (case hw => rfl); (case h1 => rfl)))
local macro_rules | `(tactic| walk_at "s") => `(tactic| first | with_reducible refine sb_one ?_ | with_reducible refine sb_cons ?_ | walk_at "ss")
local macro_rules | `(tactic| walk_at "t") => `(tactic| first | with_reducible refine st_not ?_ | ((with_reducible refine' st_cmp ?q ?st); (case st => first | exact nomark _ | rfl)) | with_reducible refine sw_and1 ?_ | with_reducible refine sw_or1 ?_ | with_reducible refine sw_or ?_ | with_reducible refine sw_and ?_ | ((with_reducible refine' st_chain ?q ?st); (case st => with_unfolding_all rfl)) | (refine st_of ?_; first | with_reducible refine sw_or ?_ | with_reducible refine sw_and ?_) | ((with_reducible refine' st_val ?q ?st); (case st => intro _; rfl)))
local macro_rules | `(tactic| walk_at "go") => `(tactic| repeat (first | walk_at "e" | walk_at "v" | walk_at "s" | walk_at "t"))
local macro_rules | `(tactic| walk_at "gt") => `(tactic| repeat (first | walk_at "e" | walk_at "v" | walk_at "ss" | walk_at "t"))
local macro_rules | `(tactic| walk_at "gx") => `(tactic| repeat (first | walk_at "e" | walk_at "v" | walk_at "ss" | walk_at "t" | refine ⟨by simp only [List.length_cons, List.length_nil]; decide, ?_⟩))
local macro_rules | `(tactic| walk_at "tg") => `(tactic| repeat (first | ((with_reducible refine' sg_tup ?q ?hc ?hn ?st); (case hc => exact DX.calm (by assumption)); (case hn => rfl); (case st => rfl)) | (refine sgs_cons ?_) | with_reducible refine sgs_nil ?_ | ((refine dx_tgt (by assumption) _ (by with_reducible assumption) ?_))))
def C_same (n : Nat) : Con := fun ss M Q _ => ∃ x y, ss = [x, y] ∧ Sm M n x y ∧ Q (.bl true) M
theorem kt {a : String} {ns : List String} {b : Bool} (h : ∀ K : PySem.W.Frag, PySem.W.kitAny K (.type a) (ns.map Value.type) = some b) : ∀ K : PySem.W.Frag, PySem.W.kitAny K (.type a) (ns.map Value.type) = some b := h
theorem all_true (xs : List S) : (xs.map fun _ => S.bl true) = (xs.map fun _ => true).map S.bl := by rw [List.map_map]; rfl
section
variable {P : Program} {w : World} {K : PySem.W.Frag} {mg : Str → Option Value} {base : Heap}
theorem kn_of {M : Mem} {n : Nat} {x y : S} (h : Sm M n x y) : (tyS M x = tyS M y) ∧ (tyS M y = some "int" ∨ tyS M y = some "bool" ∨ tyS M y = some "NoneType" ∨ tyS M y = some "tuple" ∨ tyS M y = some "list") := by
  cases h with
  | int n i => exact ⟨rfl, .inl rfl⟩
  | bl n b => exact ⟨rfl, .inr (.inl rfl)⟩
  | non n => exact ⟨rfl, .inr (.inr (.inl rfl))⟩
  | tup => exact ⟨rfl, .inr (.inr (.inr (.inl rfl)))⟩
  | lst hp hq =>
    have e1 : ∀ {q : Addr} {zs : List S}, M q = some (.lst zs) → tyS M (.ptr q) = some "list" := fun {q zs} h => by unfold tyS; dsimp only; rw [h]
    rw [e1 hp, e1 hq]
    exact ⟨rfl, .inr (.inr (.inr (.inr rfl)))⟩
theorem sc_same : FnScope ["_law_told", "_law_due", "_law_k"] ["_law_told", "_law_due"] (defScope s_same) := ⟨rfl, rfl, rfl, by decide +kernel, rfl, by decide +kernel, by decide +kernel⟩
theorem ok_same {f : Addr} {fd : FuncData} (F : Fun K "_law_same" "_law_same" s_same f fd) (T : Txt mg) (Fr : n = 0 ∨ Fn P w K mg base "_law_same" n (C_same (n - 1))) : FnOk P w K mg base (L2.CX P w) (n + 1) f fd ["_law_told", "_law_due"] (SpC K (C_same n)) := by
  refine def_ok F sc_same (fun ss M Q E h => ?_) (fun X G eP ew eK em eb d ss M Q E h wi => ?_)
  · obtain ⟨x, y, rfl, hs, q⟩ := h; rfl
  subst eP ew eK em eb
  have dn := d.dn
  have n0 : nmB ["_law_told", "_law_due", "_law_k"] (defScope s_same) 0 "_law_told" = true := by decide +kernel
  have n1 : nmB ["_law_told", "_law_due", "_law_k"] (defScope s_same) 1 "_law_due" = true := by decide +kernel
  have g_isinstance : glB (defScope s_same) "isinstance" = true := by decide +kernel
  have g_tuple : glB (defScope s_same) "tuple" = true := by decide +kernel
  have g_list : glB (defScope s_same) "list" = true := by decide +kernel
  have g_len : glB (defScope s_same) "len" = true := by decide +kernel
  have g_all : glB (defScope s_same) "all" = true := by decide +kernel
  have g_range : glB (defScope s_same) "range" = true := by decide +kernel
  have g_bool : glB (defScope s_same) "bool" = true := by decide +kernel
  have g_int : glB (defScope s_same) "int" = true := by decide +kernel
  have t_all := T.all
  have t_bool := T.bool
  have t_int := T.int
  have t_isinstance := T.isinstance
  have t_len := T.len
  have t_list := T.list
  have t_range := T.range
  have t_tuple := T.tuple
  obtain ⟨x, y, rfl, hs, q⟩ := h
  conv => pattern (defBody _); whnf
  show SSs X G _ [some x, some y, none] M _
  have tl : ∀ {p : Addr} {zs : List S}, M p = some (.lst zs) → tyS M (.ptr p) = some "list" := fun {p zs} h => by unfold tyS; dsimp only; rw [h]
  walk_at "s"
  walk_at "gx"
  cases hs with
  | int n i =>
    refine rb_isiT (s := .int i) (ns := ["tuple", "list"]) (t := "int") (k := false) rfl (fun K => rfl) (QB.mk ⟨fun c => (by cases c), fun _ => ?_⟩)
    refine sb_nil ?_
    walk_at "go"
    refine QB.mk ⟨fun c => (by cases c), fun _ => ?_⟩
    refine sb_nil ?_
    walk_at "go"
    refine rb_isBool (.int i) (QB.mk ⟨fun c => (by cases c), fun _ => ?_⟩)
    refine sb_nil ?_
    walk_at "go"
    refine rb_isInt (.int i) ⟨_, rfl, fun _ => ?_, fun c => (by cases c)⟩
    walk_at "go"
    refine rb_isBool (.int i) ⟨_, rfl, ⟨_, rfl, fun _ => ?_, fun c => (by cases c)⟩⟩
    walk_at "go"
    rw [decide_eq_true rfl]
    exact ⟨M, Sub.refl, q⟩
  | bl n b =>
    refine rb_isiT (s := .bl b) (ns := ["tuple", "list"]) (t := "bool") (k := false) rfl (fun K => rfl) (QB.mk ⟨fun c => (by cases c), fun _ => ?_⟩)
    refine sb_nil ?_
    walk_at "go"
    refine QB.mk ⟨fun c => (by cases c), fun _ => ?_⟩
    refine sb_nil ?_
    walk_at "go"
    refine rb_isBool (.bl b) (QB.mk ⟨fun _ => ?_, fun c => (by cases c)⟩)
    walk_at "go"
    refine rb_isBool (.bl b) ⟨_, rfl, fun _ => ?_, fun c => (by cases c)⟩
    walk_at "go"
    rw [decide_eq_true rfl]
    exact ⟨M, Sub.refl, q⟩
  | non n =>
    refine rb_isiT (s := .non) (ns := ["tuple", "list"]) (t := "NoneType") (k := false) rfl (fun K => rfl) (QB.mk ⟨fun c => (by cases c), fun _ => ?_⟩)
    refine sb_nil ?_
    walk_at "go"
    refine QB.mk ⟨fun _ => ?_, fun c => (by cases c)⟩
    walk_at "go"
    exact ⟨M, Sub.refl, q⟩
  | @tup n xs ys hl h1 h =>
    refine rb_isiT (s := .tup ys) (ns := ["tuple", "list"]) (t := "tuple") (k := true) rfl (fun K => rfl) (QB.mk ⟨fun _ => ?_, fun c => (by cases c)⟩)
    walk_at "s"
    walk_at "gt"
    refine rb_isi (t := "tuple") (k := true) rfl (by decide +kernel) ?_
    walk_at "gt"
    refine rb_isi (t := "tuple") (k := true) rfl (by decide +kernel) ?_
    walk_at "gt"
    refine QB.mk ⟨fun c => (by cases c), fun _ => ?_⟩
    walk_at "gt"
    refine rb_isi (t := "tuple") (k := false) rfl (by decide +kernel) ?_
    walk_at "gt"
    refine rb_isi (t := "tuple") (k := false) rfl (by decide +kernel) ?_
    walk_at "gt"
    refine QB.mk ⟨fun c => (by cases c), fun _ => ?_⟩
    refine sb_nil ?_
    have Fr' : Fn X.prog X.w X.K X.mg X.base "_law_same" (n + 1) (C_same n) := by
      rcases Fr with z | z
      · cases z
      · exact z
    walk_at "s"
    walk_at "gt"
    refine ⟨_, rfl, fun _ => ?_, fun c => ?_⟩
    · walk_at "gt"
      refine dx_map dn d.nd 2 (by decide +kernel) (fun _ => rfl) ?_
      refine si_range1 (gl_of dn g_range) t_range ?_
      walk_at "gt"
      refine ⟨_, rfl, by have : (2 : Int) ^ 62 = 4611686018427387904 := by decide
                         omega, by have : (2 : Int) ^ 62 = 4611686018427387904 := by decide
                                   omega, ?_⟩
      refine ⟨fun _ => .bl true, small1000 (by rw [rgS_len]; omega), fun _ _ => True.intro, fun D M' hD hM s hs s0 H0 C0 cl0 fp0 dn1 => ?_, fun D M' hD hM eD => ?_⟩
      · obtain ⟨i, es⟩ := List.getElem?_of_mem hs
        obtain ⟨hi, rfl⟩ := rgS_get es
        rw [Int.toNat_natCast] at hi
        have i1 : i < xs.length := by omega
        have a1 : atI xs (0 + (i : Int)) = some xs[i] := by rw [Int.zero_add]; exact atI_nat (List.getElem?_eq_getElem i1)
        have a2 : atI ys (0 + (i : Int)) = some ys[i] := by rw [Int.zero_add]; exact atI_nat (List.getElem?_eq_getElem hi)
        have k__law_same := glf dn1 "_law_same" (by decide +kernel)
        have m0 := nm_of dn1 0 "_law_told" (by decide +kernel)
        have m2 := nm_of dn1 2 "_law_k" (by decide +kernel)
        have m1 := nm_of dn1 1 "_law_due" (by decide +kernel)
        refine dn_call dn1 Fr' k__law_same (by omega) (by decide) rfl rfl ?_
        walk_at "gt"
        refine rx_tup a1 ?_
        walk_at "gt"
        refine rx_tup a2 ?_
        walk_at "gt"
        exact ⟨_, _, rfl, (h i _ _ (List.getElem?_eq_getElem i1) (List.getElem?_eq_getElem hi)).sub hM, rfl, Sub.refl⟩
      rw [all_true] at eD
      walk_at "gt"
      refine rb_all eD ⟨M, hM, ?_⟩ d.calm
      have e : (((rgS 0 ((ys.length : Int)).toNat).map fun _ => true).all id) = true := by rw [List.all_map, List.all_eq_true]; intro z _; rfl
      rw [e]
      exact q
    · rw [decide_eq_true (by rw [hl])] at c; cases c
  | @lst n px py xs ys hp hq hl h1 h =>
    refine rb_isiT (s := .ptr py) (ns := ["tuple", "list"]) (t := "list") (k := true) (tl hq) (fun K => rfl) (QB.mk ⟨fun _ => ?_, fun c => (by cases c)⟩)
    walk_at "s"
    walk_at "gt"
    refine rb_isi (t := "list") (k := false) (tl hp) (by decide +kernel) ?_
    walk_at "gt"
    refine rb_isi (t := "list") (k := false) (tl hq) (by decide +kernel) ?_
    walk_at "gt"
    refine QB.mk ⟨fun c => (by cases c), fun _ => ?_⟩
    walk_at "gt"
    refine rb_isi (t := "list") (k := true) (tl hp) (by decide +kernel) ?_
    walk_at "gt"
    refine rb_isi (t := "list") (k := true) (tl hq) (by decide +kernel) ?_
    walk_at "gt"
    refine QB.mk ⟨fun c => (by cases c), fun _ => ?_⟩
    refine sb_nil ?_
    have Fr' : Fn X.prog X.w X.K X.mg X.base "_law_same" (n + 1) (C_same n) := by
      rcases Fr with z | z
      · cases z
      · exact z
    walk_at "s"
    walk_at "gt"
    refine rb_len (its_lst hp) ?_
    walk_at "gt"
    refine rb_len (its_lst hq) ?_
    walk_at "gt"
    refine ⟨_, rfl, fun _ => ?_, fun c => ?_⟩
    · walk_at "gt"
      refine dx_map dn d.nd 2 (by decide +kernel) (fun _ => rfl) ?_
      refine si_range1 (gl_of dn g_range) t_range ?_
      walk_at "gt"
      refine rb_len (its_lst hq) ?_
      refine ⟨_, rfl, by have : (2 : Int) ^ 62 = 4611686018427387904 := by decide
                         omega, by have : (2 : Int) ^ 62 = 4611686018427387904 := by decide
                                   omega, ?_⟩
      refine ⟨fun _ => .bl true, small1000 (by rw [rgS_len]; omega), fun _ _ => True.intro, fun D M' hD hM s hs s0 H0 C0 cl0 fp0 dn1 => ?_, fun D M' hD hM eD => ?_⟩
      · obtain ⟨i, es⟩ := List.getElem?_of_mem hs
        obtain ⟨hi, rfl⟩ := rgS_get es
        rw [Int.toNat_natCast] at hi
        have i1 : i < xs.length := by omega
        have a1 : atI xs (0 + (i : Int)) = some xs[i] := by rw [Int.zero_add]; exact atI_nat (List.getElem?_eq_getElem i1)
        have a2 : atI ys (0 + (i : Int)) = some ys[i] := by rw [Int.zero_add]; exact atI_nat (List.getElem?_eq_getElem hi)
        have k__law_same := glf dn1 "_law_same" (by decide +kernel)
        have m0 := nm_of dn1 0 "_law_told" (by decide +kernel)
        have m2 := nm_of dn1 2 "_law_k" (by decide +kernel)
        have m1 := nm_of dn1 1 "_law_due" (by decide +kernel)
        refine dn_call dn1 Fr' k__law_same (by omega) (by decide) rfl rfl ?_
        walk_at "gt"
        refine rx_lst (hM _ _ hp) a1 ?_
        walk_at "gt"
        refine rx_lst (hM _ _ hq) a2 ?_
        walk_at "gt"
        exact ⟨_, _, rfl, (h i _ _ (List.getElem?_eq_getElem i1) (List.getElem?_eq_getElem hi)).sub hM, rfl, Sub.refl⟩
      rw [all_true] at eD
      walk_at "gt"
      refine rb_all eD ⟨M, hM, ?_⟩ d.calm
      have e : (((rgS 0 ((ys.length : Int)).toNat).map fun _ => true).all id) = true := by rw [List.all_map, List.all_eq_true]; intro z _; rfl
      rw [e]
      exact q
    · rw [decide_eq_true (by rw [hl])] at c; cases c
end

end Sy

set_option Elab.async false
set_option linter.all false
set_option maxRecDepth 100000
set_option maxHeartbeats 1000000
namespace Sy
open PySem PySem.Spec PyProof.Rows L2
local macro_rules | `(tactic| walk_at "nm") => `(tactic| ((with_reducible refine' dn_name ?d _ ?h ?he ?q); (case d => assumption); (case h => with_reducible assumption); (case he => rfl)))
local macro_rules | `(tactic| walk_at "cn") => `(tactic| first | with_reducible refine se_int ?_ | with_reducible refine se_bl ?_ | with_reducible refine se_non ?_ | with_reducible refine se_str ?_)
local macro_rules | `(tactic| walk_at "ct") => `(tactic| ((with_reducible refine' dn_callT ?d ?m ?v ?g ?n ?db ?st ?pl ?q); (case d => assumption); (case m => with_reducible assumption); (case v => first | with_reducible exact bt_int | with_reducible exact bt_tuple | with_reducible exact bt_list | with_reducible exact bt_str | with_reducible exact bt_bool); (case g => with_reducible assumption); (case n => decide); (case db => decide); (case st => rfl); (case pl => rfl)))
local macro_rules | `(tactic| walk_at "cb") => `(tactic| ((with_reducible refine' dn_callB ?d ?m ?v ?g ?n ?db ?st ?pl ?q); (case d => assumption); (case m => with_reducible assumption); (case v => first | with_reducible exact bf_len | with_reducible exact bf_isinstance | with_reducible exact bf_all | with_reducible exact bf_max | with_reducible exact bf_min | with_reducible exact bf_abs | with_reducible exact bf_sum | with_reducible exact bf_any | with_reducible exact bf_repr); (case g => with_reducible assumption); (case n => decide); (case db => decide); (case st => rfl); (case pl => rfl)))
local macro_rules | `(tactic| walk_at "cf") => `(tactic| ((with_reducible refine' dn_call ?d ?F ?g ?k ?db ?st ?pl ?q); (case d => assumption); (case F => with_reducible assumption); (case g => with_reducible assumption); (case k => decide); (case db => decide); (case st => rfl); (case pl => rfl)))
local macro_rules | `(tactic| walk_at "tv") => `(tactic| ((with_reducible refine' dn_ty ?d ?m ?v ?g ?n ?db ?q); (case d => assumption); (case m => with_reducible assumption); (case v => first | with_reducible exact bt_int | with_reducible exact bt_tuple | with_reducible exact bt_list | with_reducible exact bt_str | with_reducible exact bt_bool); (case g => with_reducible assumption); (case n => decide); (case db => decide)))
local macro_rules | `(tactic| walk_at "ck") => `(tactic| ((with_reducible refine' dn_kw ?d ?F ?g ?k ?db ?a ?ks ?pl ?q); (case d => assumption); (case F => with_reducible assumption); (case g => with_reducible assumption); (case k => decide); (case db => decide); (case a => rfl); (case ks => rfl); (case pl => rfl)))
local macro_rules | `(tactic| walk_at "e") => `(tactic| first | walk_at "nm" | walk_at "cn" | with_reducible refine se_bin ?_ | ((with_reducible refine' se_cmp ?q ?st); (case st => first | exact nomark _ | rfl)) | ((with_reducible refine' se_ix ?q ?st); (case st => exact fun _ _ => rfl)) | with_reducible refine sa_nil ?_ | ((with_reducible refine' sa_cons ?q ?st); (case st => rfl)) | walk_at "cf" | walk_at "ck" | with_reducible refine sk_nil ?_ | with_reducible refine sk_cons ?_ | walk_at "cb" | walk_at "ct" | walk_at "tv" | with_reducible refine se_one ?_ | ((with_reducible refine' se_chain ?q ?st); (case st => with_unfolding_all rfl)) | with_reducible refine se_tup ?_ | with_reducible refine se_lst ?_ | with_reducible refine se_and ?_ | with_reducible refine se_or ?_ | with_reducible refine se_not ?_ | with_reducible refine se_un ?_ )
local macro_rules | `(tactic| walk_at "v") => `(tactic| first | with_reducible refine ro_addI ?_ | with_reducible refine rc_isIB ?_ | with_reducible refine rc_eqB ?_ | with_reducible refine rc_neB ?_ | with_reducible refine rc_isN ?_ | with_reducible refine rc_notN ?_ | with_reducible refine ro_subI ?_ | with_reducible refine rc_eqI ?_ | with_reducible refine rc_neI ?_ | with_reducible refine rc_ltI ?_ | with_reducible refine rc_leI ?_ | with_reducible refine rc_gtI ?_ | with_reducible refine rc_geI ?_ | with_reducible refine rb_intI ?_ | with_reducible refine ru_neg ?_ | with_reducible refine rb_tupleT ?_ | ((with_reducible refine rb_isInt ?h ?q); (case h => assumption)) | ((with_reducible refine rb_isBool ?h ?q); (case h => assumption)) | ((with_reducible refine rb_isTup ?h ?q); (case h => assumption)) | with_reducible refine rb_len its_tup ?_ | (refine rx_tup (by rfl) ?_) | ((with_reducible refine' rx_lst ?h ?a ?q); (case h => with_reducible assumption); (case a => rfl)))
local macro_rules | `(tactic| walk_at "ss") => `(tactic| first | with_reducible refine ss_ret (se_fg ?_) | with_reducible refine ss_if ?_ | ((with_reducible refine' ss_expr ?q ?st); (case st => rfl)) | ((with_reducible refine' dx_set ?d _ ?h ?hs ?q); (case d => assumption); (case h => with_reducible assumption); (case hs => rfl)) | ((with_reducible refine' ss_asg (tg := .Tuple _ _ _) ?q ?hs ?hw ?h1); (case hs => rfl); (case hw => rfl); (case h1 => rfl)))
local macro_rules | `(tactic| walk_at "s") => `(tactic| first | with_reducible refine sb_one ?_ | with_reducible refine sb_cons ?_ | walk_at "ss")
local macro_rules | `(tactic| walk_at "t") => `(tactic| first | with_reducible refine st_not ?_ | ((with_reducible refine' st_cmp ?q ?st); (case st => first | exact nomark _ | rfl)) | with_reducible refine sw_and1 ?_ | with_reducible refine sw_or1 ?_ | with_reducible refine sw_or ?_ | with_reducible refine sw_and ?_ | ((with_reducible refine' st_chain ?q ?st); (case st => with_unfolding_all rfl)) | (refine st_of ?_; first | with_reducible refine sw_or ?_ | with_reducible refine sw_and ?_) | ((with_reducible refine' st_val ?q ?st); (case st => intro _; rfl)))
local macro_rules | `(tactic| walk_at "go") => `(tactic| repeat (first | walk_at "e" | walk_at "v" | walk_at "s" | walk_at "t"))
local macro_rules | `(tactic| walk_at "gt") => `(tactic| repeat (first | walk_at "e" | walk_at "v" | walk_at "ss" | walk_at "t"))
local macro_rules | `(tactic| walk_at "gx") => `(tactic| repeat (first | walk_at "e" | walk_at "v" | walk_at "ss" | walk_at "t" | refine ⟨by simp only [List.length_cons, List.length_nil]; decide, ?_⟩))
local macro_rules | `(tactic| walk_at "tg") => `(tactic| repeat (first | ((with_reducible refine' sg_tup ?q ?hc ?hn ?st); (case hc => exact DX.calm (by assumption)); (case hn => rfl); (case st => rfl)) | (refine sgs_cons ?_) | with_reducible refine sgs_nil ?_ | ((refine dx_tgt (by assumption) _ (by with_reducible assumption) ?_))))
def rgI (n : Nat) : List Int := (List.range n).map fun (k : Nat) => (k : Int)
theorem rgS_map (n : Nat) : rgS 0 n = (rgI n).map S.int := by
  unfold rgS rgI
  rw [List.map_map]
  exact List.map_congr_left fun a _ => by show S.int (0 + (a : Int)) = S.int (a : Int); rw [Int.zero_add]
theorem rgI_len (n : Nat) : (rgI n).length = n := by unfold rgI; simp
theorem rgI_mem {n : Nat} {x : Int} : x ∈ rgI n ↔ 0 ≤ x ∧ x < n := by
  unfold rgI
  rw [List.mem_map]
  constructor
  · rintro ⟨k, hk, rfl⟩
    have := List.mem_range.mp hk
    omega
  · rintro ⟨h0, h1⟩
    exact ⟨x.toNat, List.mem_range.mpr (by omega), by omega⟩
/-- a list of all numbers below L -/
structure PermI (L : Nat) (ns : List Int) : Prop where
  len : ns.length = L
  mem : ∀ x, x ∈ ns ↔ 0 ≤ x ∧ x < (L : Int)
def C_order : Con := fun ss M Q _ => ∃ p n, ∃ (L : Nat), ss = [.ptr p, .int L] ∧ Ink M p n ∧ n ≤ 1000000000 ∧ L ≤ 64 ∧ ∀ u ns M', PermI L ns → Sx p (n + 64) M [(u, .lst (ns.map S.int))] M' → Q (.ptr u) M'
def C_shades : Con := fun ss M Q _ => ∃ p n, ∃ (L : Nat), ss = [.ptr p, .int L] ∧ Ink M p n ∧ n ≤ 1000000000 ∧ 1 ≤ L ∧ L ≤ 64 ∧ ∀ (sh : List Int) M', sh.length = L → (∀ s, s ∈ sh → 0 ≤ s ∧ s ≤ 3) → Sx p (n + 200) M [] M' → Q (.tup (sh.map S.int)) M'
/-- ints within bounds -/
def InI (lo hi : Int) : S → Prop := fun s => ∃ i : Int, s = .int i ∧ lo ≤ i ∧ i ≤ hi
theorem ints_of {lo hi : Int} : ∀ {acc : List S}, (∀ y, y ∈ acc → InI lo hi y) → ∃ ns : List Int, acc = ns.map S.int ∧ ns.length = acc.length ∧ ∀ n, n ∈ ns → lo ≤ n ∧ n ≤ hi
  | [], _ => ⟨[], rfl, rfl, fun n hn => nomatch hn⟩
  | a :: acc, h => by
    obtain ⟨i, rfl, h0, h1⟩ := h a List.mem_cons_self
    obtain ⟨ns, rfl, hl, hn⟩ := ints_of (acc := acc) fun y hy => h y (List.mem_cons_of_mem _ hy)
    refine ⟨i :: ns, rfl, by rw [List.length_cons, hl, List.length_cons], fun n hm => ?_⟩
    rcases List.mem_cons.mp hm with rfl | z
    · exact ⟨h0, h1⟩
    · exact hn n z
theorem rep_ints (x : Int) (n : Nat) : (List.replicate n [S.int x]).flatten = (List.replicate n x).map S.int := by
  induction n with
  | zero => rfl
  | succ n ih => rw [List.replicate_succ, List.flatten_cons, ih]; rfl
theorem set_ints (ns : List Int) (i : Nat) (x : Int) : (ns.map S.int).set i (.int x) = (ns.set i x).map S.int := by rw [List.map_set]
theorem set_in {ns : List Int} {i : Nat} {x lo hi : Int} (h : ∀ n, n ∈ ns → lo ≤ n ∧ n ≤ hi) (hx : lo ≤ x ∧ x ≤ hi) : ∀ n, n ∈ ns.set i x → lo ≤ n ∧ n ≤ hi := fun n hn => by
  rcases List.mem_or_eq_of_mem_set hn with z | z
  · exact h n z
  · rw [z]; exact hx
theorem ixN_in {n : Nat} {k : Int} (h0 : 0 ≤ k) (h1 : k < n) : ixN n k = some k.toNat := by
  unfold ixN
  simp only [h0, h1, if_true]
  try (split <;> first | rfl | omega)
section
variable {P : Program} {w : World} {K : PySem.W.Frag} {mg : Str → Option Value} {base : Heap}
theorem sc_order : FnScope ["_law_ink_here", "_law_many", "_law_left", "_law_order_here", "_law_turn"] ["_law_ink_here", "_law_many"] (defScope s_order) := ⟨rfl, rfl, rfl, by decide +kernel, rfl, by decide +kernel, by decide +kernel⟩
theorem ok_order {f : Addr} {fd : FuncData} (F : Fun K "_law_order" "_law_order" s_order f fd) (T : Txt mg) (F_drip : Fn P w K mg base "_law_drip" 1 C_drip) : FnOk P w K mg base (L2.CX P w) 2 f fd ["_law_ink_here", "_law_many"] (SpC K C_order) := by
  refine def_ok F sc_order (fun ss M Q E h => ?_) (fun X G eP ew eK em eb d ss M Q E h wi => ?_)
  · obtain ⟨p, n, L, rfl, hI, hn, hL, q⟩ := h; rfl
  subst eP ew eK em eb
  have dn := d.dn
  have n0 : nmB ["_law_ink_here", "_law_many", "_law_left", "_law_order_here", "_law_turn"] (defScope s_order) 0 "_law_ink_here" = true := by decide +kernel
  have n1 : nmB ["_law_ink_here", "_law_many", "_law_left", "_law_order_here", "_law_turn"] (defScope s_order) 1 "_law_many" = true := by decide +kernel
  have n2 : nmB ["_law_ink_here", "_law_many", "_law_left", "_law_order_here", "_law_turn"] (defScope s_order) 2 "_law_left" = true := by decide +kernel
  have n3 : nmB ["_law_ink_here", "_law_many", "_law_left", "_law_order_here", "_law_turn"] (defScope s_order) 3 "_law_order_here" = true := by decide +kernel
  have l2 : lcB ["_law_ink_here", "_law_many", "_law_left", "_law_order_here", "_law_turn"] (defScope s_order) 2 "_law_left" = true := by decide +kernel
  have l3 : lcB ["_law_ink_here", "_law_many", "_law_left", "_law_order_here", "_law_turn"] (defScope s_order) 3 "_law_order_here" = true := by decide +kernel
  have l4 : lcB ["_law_ink_here", "_law_many", "_law_left", "_law_order_here", "_law_turn"] (defScope s_order) 4 "_law_turn" = true := by decide +kernel
  have g_list : glB (defScope s_order) "list" = true := by decide +kernel
  have g_range : glB (defScope s_order) "range" = true := by decide +kernel
  have g__law_drip : glB (defScope s_order) "_law_drip" = true := by decide +kernel
  have g_len : glB (defScope s_order) "len" = true := by decide +kernel
  have t_len := T.len
  have t_list := T.list
  have t_range := T.range
  obtain ⟨p, n, L, rfl, hI, hn, hL, q⟩ := h
  conv => pattern (defBody _); whnf
  show SSs X G _ [some (.ptr p), some (.int L), none, none, none] M _
  have e62 : (2 : Int) ^ 62 = 4611686018427387904 := by decide
  have e63 : (2 : Int) ^ 63 = 9223372036854775808 := by decide
  have hz : (sizeLine : Nat) = 16777216 := sizeLine_eq
  have s0 := Sx.of hI
  walk_at "s"
  refine dx_set d 2 l2 rfl ?_
  refine se_listRg (gl_of dn g_list) t_list (gl_of dn g_range) t_range d.calm ?_
  walk_at "gt"
  refine ⟨_, rfl, by omega, by omega, fun u1 h1 => ?_⟩
  rw [Int.toNat_natCast, rgS_map]
  generalize e1 : updM _ u1 _ = M1
  have s1 := s0.gen h1 e1
  show SSs _ G _ [some (.ptr p), some (.int L), some (.ptr u1), none, none] M1 _
  walk_at "s"
  walk_at "gt"
  refine ⟨by decide, fun u2 h2 => ?_⟩
  generalize e2 : updM _ u2 _ = M2
  have s2 := s1.gen h2 e2
  show SSs _ G _ [some (.ptr p), some (.int L), some (.ptr u1), some (.ptr u2), none] M2 _
  refine sb_cons ?_
  refine dx_for d (fun _ => rfl) ?_
  refine si_range1 (gl_of dn g_range) t_range ?_
  walk_at "gt"
  refine ⟨_, rfl, by omega, by omega, ?_⟩
  refine ⟨fun i v' M' => i ≤ L ∧ ∃ (y : Option S) (lf od : List Int), v' = [some (.ptr p), some (.int L), some (.ptr u1), some (.ptr u2), y] ∧ Sx p (n + i) M [(u2, .lst (od.map S.int)), (u1, .lst (lf.map S.int))] M' ∧ lf.length = L - i ∧ od.length = i ∧ ∀ x, (x ∈ lf ∨ x ∈ od) ↔ 0 ≤ x ∧ x < (L : Int), ⟨by omega, none, rgI L, [], rfl, s2, by rw [rgI_len]; rfl, rfl, fun x => by rw [rgI_mem]; simp⟩, fun _ _ _ _ => True.intro, ?_, ?_⟩
  · rintro i s v' M' es ⟨hi, y, lf, od, rfl, sx, l1', l2', hm⟩
    obtain ⟨hlt, rfl⟩ := rgS_get es
    rw [Int.toNat_natCast] at hlt
    refine dx_tgt d 4 l4 ?_
    show SSs _ G _ [some (.ptr p), some (.int L), some (.ptr u1), some (.ptr u2), some (.int (0 + i))] M' _
    walk_at "s"
    walk_at "ss"
    refine se_append ?_
    walk_at "gt"
    refine ⟨u2, rfl, ⟨_, sx.at 0 rfl⟩, ?_⟩
    refine se_popI ?_
    walk_at "gt"
    refine ⟨u1, rfl, ⟨_, sx.at 1 rfl⟩, ?_⟩
    walk_at "gt"
    refine rb_len (its_lst (sx.at 1 rfl)) ?_
    walk_at "gt"
    refine drip_go sx (by omega) (by rw [List.length_map]; omega) (by rw [List.length_map]; have : (2 : Int) ^ 200 > 1000 := by decide
                                                                      omega) fun r M3 r0 r1 s3 => ?_
    rw [List.length_map] at r1
    have hr : r.toNat < lf.length := by omega
    have er : ((r.toNat : Nat) : Int) = r := by omega
    refine ⟨lf.map S.int, r, r.toNat, .int lf[r.toNat], rfl, s3.at 1 rfl, ?_, ?_, by omega, by omega, ?_⟩
    · rw [List.length_map]
      exact (ixN_seq (ixN_in r0 r1)).1
    · rw [List.getElem?_map, List.getElem?_eq_getElem hr]; rfl
    generalize e4 : updM _ u1 _ = M4
    have s4 : Sx p (n + i + 1) M [(u2, .lst (od.map S.int)), (u1, .lst ((lf.eraseIdx r.toNat).map S.int))] M4 := by
      rw [← e4]
      have z := s3.set 1 rfl (o' := .lst ((lf.map S.int).eraseIdx r.toNat))
      have e : (lf.map S.int).eraseIdx r.toNat = (lf.eraseIdx r.toNat).map S.int := map_erase _ _ _
      rw [e] at z ⊢
      exact z
    refine ⟨_, s4.at 0 rfl, by rw [List.length_map]; omega, ?_⟩
    refine ⟨by omega, some (.int (0 + i)), lf.eraseIdx r.toNat, od ++ [lf[r.toNat]], rfl, ?_, by rw [List.length_eraseIdx]; split <;> omega, by rw [List.length_append, l2']; rfl, fun x => ?_⟩
    · rw [List.map_append]
      exact s4.set 0 rfl
    · rw [← hm x, List.mem_append, List.mem_singleton]
      have z : x ∈ lf ↔ x ∈ lf.eraseIdx r.toNat ∨ x = lf[r.toNat] := by
        have e : lf = lf.take r.toNat ++ lf[r.toNat] :: lf.drop (r.toNat + 1) := by rw [← List.drop_eq_getElem_cons hr, List.take_append_drop]
        rw [List.eraseIdx_eq_take_drop_succ, List.mem_append]
        constructor
        · intro h
          rw [e] at h
          rcases List.mem_append.mp h with h | h
          · exact .inl (.inl h)
          · rcases List.mem_cons.mp h with h | h
            · exact .inr h
            · exact .inl (.inr h)
        · rintro ((h | h) | h)
          · exact List.mem_of_mem_take h
          · exact List.mem_of_mem_drop h
          · rw [h]; exact List.getElem_mem hr
      rw [z]
      constructor
      · rintro (h | h | h)
        · exact .inl (.inl h)
        · exact .inr h
        · exact .inl (.inr h)
      · rintro ((h | h) | h)
        · exact .inl h
        · exact .inr (.inr h)
        · exact .inr (.inl h)
  · rintro v' M' ⟨hi, y, lf, od, rfl, sx, l1', l2', hm⟩
    rw [rgS_len, Int.toNat_natCast] at l1' l2' sx
    walk_at "gt"
    walk_at "s"
    walk_at "gt"
    have e0 : lf = [] := List.eq_nil_of_length_eq_zero (by omega)
    subst e0
    refine ⟨_, Sub.refl, q u2 od M' ⟨l2', fun x => by rw [← hm x]; simp⟩ ((sx.pick 0 rfl).up (by omega))⟩
theorem sc_shades : FnScope ["_law_ink_here", "_law_letters", "_law_way", "_law_one", "_law_other", "_law_shades_here", "_law_letter"] ["_law_ink_here", "_law_letters"] (defScope s_shades) := ⟨rfl, rfl, rfl, by decide +kernel, rfl, by decide +kernel, by decide +kernel⟩
theorem ok_shades {f : Addr} {fd : FuncData} (F : Fun K "_law_shades" "_law_shades" s_shades f fd) (T : Txt mg) (F_drip : Fn P w K mg base "_law_drip" 1 C_drip) : FnOk P w K mg base (L2.CX P w) 2 f fd ["_law_ink_here", "_law_letters"] (SpC K C_shades) := by
  refine def_ok F sc_shades (fun ss M Q E h => ?_) (fun X G eP ew eK em eb d ss M Q E h wi => ?_)
  · obtain ⟨p, n, L, rfl, hI, hn, hL0, hL, q⟩ := h; rfl
  subst eP ew eK em eb
  have dn := d.dn
  have n0 : nmB ["_law_ink_here", "_law_letters", "_law_way", "_law_one", "_law_other", "_law_shades_here", "_law_letter"] (defScope s_shades) 0 "_law_ink_here" = true := by decide +kernel
  have n1 : nmB ["_law_ink_here", "_law_letters", "_law_way", "_law_one", "_law_other", "_law_shades_here", "_law_letter"] (defScope s_shades) 1 "_law_letters" = true := by decide +kernel
  have n2 : nmB ["_law_ink_here", "_law_letters", "_law_way", "_law_one", "_law_other", "_law_shades_here", "_law_letter"] (defScope s_shades) 2 "_law_way" = true := by decide +kernel
  have n3 : nmB ["_law_ink_here", "_law_letters", "_law_way", "_law_one", "_law_other", "_law_shades_here", "_law_letter"] (defScope s_shades) 3 "_law_one" = true := by decide +kernel
  have n4 : nmB ["_law_ink_here", "_law_letters", "_law_way", "_law_one", "_law_other", "_law_shades_here", "_law_letter"] (defScope s_shades) 4 "_law_other" = true := by decide +kernel
  have n5 : nmB ["_law_ink_here", "_law_letters", "_law_way", "_law_one", "_law_other", "_law_shades_here", "_law_letter"] (defScope s_shades) 5 "_law_shades_here" = true := by decide +kernel
  have l2 : lcB ["_law_ink_here", "_law_letters", "_law_way", "_law_one", "_law_other", "_law_shades_here", "_law_letter"] (defScope s_shades) 2 "_law_way" = true := by decide +kernel
  have l3 : lcB ["_law_ink_here", "_law_letters", "_law_way", "_law_one", "_law_other", "_law_shades_here", "_law_letter"] (defScope s_shades) 3 "_law_one" = true := by decide +kernel
  have l4 : lcB ["_law_ink_here", "_law_letters", "_law_way", "_law_one", "_law_other", "_law_shades_here", "_law_letter"] (defScope s_shades) 4 "_law_other" = true := by decide +kernel
  have l5 : lcB ["_law_ink_here", "_law_letters", "_law_way", "_law_one", "_law_other", "_law_shades_here", "_law_letter"] (defScope s_shades) 5 "_law_shades_here" = true := by decide +kernel
  have g__law_drip : glB (defScope s_shades) "_law_drip" = true := by decide +kernel
  have g_range : glB (defScope s_shades) "range" = true := by decide +kernel
  have g_tuple : glB (defScope s_shades) "tuple" = true := by decide +kernel
  have t_range := T.range
  have t_tuple := T.tuple
  obtain ⟨p, n, L, rfl, hI, hn, hL0, hL, q⟩ := h
  conv => pattern (defBody _); whnf
  show SSs X G _ [some (.ptr p), some (.int L), none, none, none, none, none] M _
  have e62 : (2 : Int) ^ 62 = 4611686018427387904 := by decide
  have e63 : (2 : Int) ^ 63 = 9223372036854775808 := by decide
  have e200 : (1000000 : Int) < 2 ^ 200 := by decide
  have hz : (sizeLine : Nat) = 16777216 := sizeLine_eq
  have s0 := Sx.of hI
  walk_at "s"
  walk_at "gt"
  refine drip_go s0 (by omega) (by omega) (by omega) fun r1 M1 a1 b1 s1 => ?_
  show SSs _ G _ [some (.ptr p), some (.int L), some (.int r1), none, none, none, none] M1 _
  walk_at "s"
  walk_at "gt"
  refine drip_go s1 (by omega) (by omega) (by omega) fun r2 M2 a2 b2 s2 => ?_
  show SSs _ G _ [some (.ptr p), some (.int L), some (.int r1), some (.int r2), none, none, none] M2 _
  walk_at "s"
  walk_at "gt"
  refine drip_go s2 (by omega) (by omega) (by omega) fun r3 M3 a3 b3 s3 => ?_
  show SSs _ G _ [some (.ptr p), some (.int L), some (.int r1), some (.int r2), some (.int r3), none, none] M3 _
  walk_at "s"
  walk_at "gx"
  refine fun u1 h1 => ?_
  generalize e1 : updM _ u1 _ = M4
  have s4 := s3.gen h1 e1
  walk_at "gt"
  refine ro_repL (k := (L : Int)) (s4.at 0 rfl) (by omega) (by omega) (by rw [Int.toNat_natCast]; simp only [List.length_cons, List.length_nil]; omega) fun u2 h2 => ?_
  generalize e2 : updM _ u2 _ = M5
  have s5 := s4.gen h2 e2
  rw [Int.toNat_natCast, rep_ints] at s5
  show SSs _ G _ [some (.ptr p), some (.int L), some (.int r1), some (.int r2), some (.int r3), some (.ptr u2), none] M5 _
  have rep_in : ∀ x, x ∈ List.replicate L r2 → 0 ≤ x ∧ x ≤ 3 := fun x hx => by
    rw [(List.mem_replicate.mp hx).2]; omega
  -- what holds from here on
  refine sb_cut (fun env' M' => ∃ (u : Addr) (ns : List Int) (y : Option S) (C : List (Addr × MO)), env' = [some (.ptr p), some (.int L), some (.int r1), some (.int r2), some (.int r3), some (.ptr u), y] ∧ ns.length = L ∧ (∀ x, x ∈ ns → 0 ≤ x ∧ x ≤ 3) ∧ Sx p (n + 67) M ((u, .lst (ns.map S.int)) :: C) M') ?_ ?_
  · walk_at "go"
    refine QB.mk ⟨fun c => ?_, fun c => ?_⟩
    · refine sb_one ?_
      refine dx_setDraw d 5 6 (by decide +kernel) (by decide +kernel) (fun _ => rfl) rfl (by decide +kernel) rfl ?_
      refine si_range1 (gl_of dn g_range) t_range ?_
      walk_at "gt"
      refine ⟨_, rfl, by omega, by omega, ?_⟩
      rw [Int.toNat_natCast]
      refine ⟨p, _, M, _, 1, InI 0 3, s5, by rw [rgS_len]; omega, fun _ _ _ _ => True.intro, fun j s m D acc M' es hm0 hm1 hl sx s0 H0 C0 cl0 fp0 dn1 => ?_, fun D acc M' hl hp sx => ?_⟩
      · have hj := (rgS_get es).1
        have k__law_drip := glf dn1 "_law_drip" (by decide +kernel)
        have m0 := nm_of dn1 0 "_law_ink_here" (by decide +kernel)
        walk_at "gt"
        exact drip_go sx (by omega) (by omega) (by omega) fun r M6 r0 r1 s6 => ⟨⟨r, rfl, r0, by omega⟩, s6⟩
      · rw [rgS_len] at hl sx
        obtain ⟨ns, rfl, hl2, hn2⟩ := ints_of hp
        exact ⟨D, ns, none, _, rfl, by omega, hn2, sx.up (by omega)⟩
    · refine sb_nil ?_
      exact ⟨u2, _, none, _, rfl, List.length_replicate, rep_in, s5.up (by omega)⟩
  rintro env' M' ⟨u, ns, y, C, rfl, hl, hin, sx⟩
  refine sb_cut (fun env' M' => ∃ (u : Addr) (ns : List Int) (y : Option S) (C : List (Addr × MO)), env' = [some (.ptr p), some (.int L), some (.int r1), some (.int r2), some (.int r3), some (.ptr u), y] ∧ ns.length = L ∧ (∀ x, x ∈ ns → 0 ≤ x ∧ x ≤ 3) ∧ Sx p (n + 131) M ((u, .lst (ns.map S.int)) :: C) M') ?_ ?_
  · walk_at "go"
    refine QB.mk ⟨fun c => ?_, fun c => ?_⟩
    · have c' : r1 = 1 := of_decide_eq_true c
      refine sb_one ?_
      refine dx_setDraw d 5 6 (by decide +kernel) (by decide +kernel) (fun _ => rfl) rfl (by decide +kernel) rfl ?_
      refine si_range1 (gl_of dn g_range) t_range ?_
      walk_at "gt"
      refine ⟨_, rfl, by omega, by omega, ?_⟩
      rw [Int.toNat_natCast]
      refine ⟨p, _, M, _, 1, InI 0 3, sx, by rw [rgS_len]; omega, fun _ _ _ _ => True.intro, fun j s m D acc M' es hm0 hm1 hl sx s0 H0 C0 cl0 fp0 dn1 => ?_, fun D acc M' hl hp sx => ?_⟩
      · have hj := (rgS_get es).1
        have m3 := nm_of dn1 3 "_law_one" (by decide +kernel)
        have m4 := nm_of dn1 4 "_law_other" (by decide +kernel)
        have k__law_drip := glf dn1 "_law_drip" (by decide +kernel)
        have m0 := nm_of dn1 0 "_law_ink_here" (by decide +kernel)
        walk_at "gx"
        refine fun u6 h6 => ?_
        generalize e6 : updM _ u6 _ = M6
        have s6 := sx.gen h6 e6
        walk_at "gt"
        refine drip_go s6 (by omega) (by omega) (by omega) fun r M7 r0 r1 s7 => ?_
        refine rx_mem (s7.at 0 rfl) r0 r1 fun z hz => ⟨?_, s7.drop 1⟩
        simp only [List.mem_cons, List.not_mem_nil, or_false] at hz
        rcases hz with rfl | rfl
        · exact ⟨r2, rfl, a2, by omega⟩
        · exact ⟨r3, rfl, a3, by omega⟩
      · rw [rgS_len] at hl sx
        obtain ⟨ns, rfl, hl2, hn2⟩ := ints_of hp
        exact ⟨D, ns, y, _, rfl, by omega, hn2, sx.up (by omega)⟩
    · refine sb_nil ?_
      exact ⟨u, ns, y, C, rfl, hl, hin, sx.up (by omega)⟩
  rintro env' M' ⟨u, ns, y, C, rfl, hl, hin, sx⟩
  refine sb_cut (fun env' M' => ∃ (u : Addr) (ns : List Int) (y : Option S) (C : List (Addr × MO)), env' = [some (.ptr p), some (.int L), some (.int r1), some (.int r2), some (.int r3), some (.ptr u), y] ∧ ns.length = L ∧ (∀ x, x ∈ ns → 0 ≤ x ∧ x ≤ 3) ∧ Sx p (n + 132) M ((u, .lst (ns.map S.int)) :: C) M') ?_ ?_
  · walk_at "go"
    refine QB.mk ⟨fun c => ?_, fun c => ?_⟩
    · refine sb_one ?_
      refine ss_asg ?_
      walk_at "gt"
      refine sg_item ?_
      walk_at "gt"
      refine drip_go sx (by omega) (by omega) (by omega) fun r M7 r0' r1' s7 => ?_
      have z := s7.set 0 rfl (o' := .lst ((ns.map S.int).set r.toNat (.int r3)))
      rw [set_ints] at z
      refine ⟨u, _, r, r.toNat, rfl, rfl, s7.at 0 rfl, ixN_in r0' (by rw [List.length_map]; omega), ?_⟩
      rw [set_ints]
      exact ⟨u, _, y, C, rfl, by rw [List.length_set]; exact hl, set_in hin ⟨a3, by omega⟩, z⟩
    · refine sb_nil ?_
      exact ⟨u, ns, y, C, rfl, hl, hin, sx.up (by omega)⟩
  rintro env' M' ⟨u, ns, y, C, rfl, hl, hin, sx⟩
  refine sb_cut (fun env' M' => ∃ (u : Addr) (ns : List Int) (y : Option S) (C : List (Addr × MO)), env' = [some (.ptr p), some (.int L), some (.int r1), some (.int r2), some (.int r3), some (.ptr u), y] ∧ ns.length = L ∧ (∀ x, x ∈ ns → 0 ≤ x ∧ x ≤ 3) ∧ Sx p (n + 132) M ((u, .lst (ns.map S.int)) :: C) M') ?_ ?_
  · walk_at "go"
    refine QB.mk ⟨fun c => ?_, fun c => ?_⟩
    · refine sb_one ?_
      refine ss_asg ?_
      walk_at "gt"
      refine sg_item ?_
      walk_at "gt"
      have z := sx.set 0 rfl (o' := .lst ((ns.map S.int).set ((L : Int) - 1).toNat (.int r3)))
      rw [set_ints] at z
      refine ⟨u, _, (L : Int) - 1, ((L : Int) - 1).toNat, rfl, rfl, sx.at 0 rfl, ixN_in (by omega) (by rw [List.length_map]; omega), ?_⟩
      rw [set_ints]
      exact ⟨u, _, y, C, rfl, by rw [List.length_set]; exact hl, set_in hin ⟨a3, by omega⟩, z⟩
    · refine sb_nil ?_
      exact ⟨u, ns, y, C, rfl, hl, hin, sx.up (by omega)⟩
  rintro env' M' ⟨u, ns, y, C, rfl, hl, hin, sx⟩
  walk_at "gt"
  walk_at "s"
  walk_at "gt"
  refine rb_tupleL (sx.at 0 rfl) ?_
  exact ⟨_, Sub.refl, q ns M' hl hin ((sx.drop (C.length + 1)).up (by omega) |> fun z => by simpa using z)⟩
end

end Sy

set_option Elab.async false
set_option linter.all false
set_option maxRecDepth 100000
set_option maxHeartbeats 1000000
namespace Sy
open PySem PySem.Spec PyProof.Rows L2
local macro_rules | `(tactic| walk_at "nm") => `(tactic| ((with_reducible refine' dn_name ?d _ ?h ?he ?q); (case d => assumption); (case h => with_reducible assumption); (case he => rfl)))
local macro_rules | `(tactic| walk_at "cn") => `(tactic| first | with_reducible refine se_int ?_ | with_reducible refine se_bl ?_ | with_reducible refine se_non ?_ | with_reducible refine se_str ?_)
local macro_rules | `(tactic| walk_at "ct") => `(tactic| ((with_reducible refine' dn_callT ?d ?m ?v ?g ?n ?db ?st ?pl ?q); (case d => assumption); (case m => with_reducible assumption); (case v => first | with_reducible exact bt_int | with_reducible exact bt_tuple | with_reducible exact bt_list | with_reducible exact bt_str | with_reducible exact bt_bool); (case g => with_reducible assumption); (case n => decide); (case db => decide); (case st => rfl); (case pl => rfl)))
local macro_rules | `(tactic| walk_at "cb") => `(tactic| ((with_reducible refine' dn_callB ?d ?m ?v ?g ?n ?db ?st ?pl ?q); (case d => assumption); (case m => with_reducible assumption); (case v => first | with_reducible exact bf_len | with_reducible exact bf_isinstance | with_reducible exact bf_all | with_reducible exact bf_max | with_reducible exact bf_min | with_reducible exact bf_abs | with_reducible exact bf_sum | with_reducible exact bf_any | with_reducible exact bf_repr); (case g => with_reducible assumption); (case n => decide); (case db => decide); (case st => rfl); (case pl => rfl)))
local macro_rules | `(tactic| walk_at "cf") => `(tactic| ((with_reducible refine' dn_call ?d ?F ?g ?k ?db ?st ?pl ?q); (case d => assumption); (case F => with_reducible assumption); (case g => with_reducible assumption); (case k => decide); (case db => decide); (case st => rfl); (case pl => rfl)))
local macro_rules | `(tactic| walk_at "tv") => `(tactic| ((with_reducible refine' dn_ty ?d ?m ?v ?g ?n ?db ?q); (case d => assumption); (case m => with_reducible assumption); (case v => first | with_reducible exact bt_int | with_reducible exact bt_tuple | with_reducible exact bt_list | with_reducible exact bt_str | with_reducible exact bt_bool); (case g => with_reducible assumption); (case n => decide); (case db => decide)))
local macro_rules | `(tactic| walk_at "ck") => `(tactic| ((with_reducible refine' dn_kw ?d ?F ?g ?k ?db ?a ?ks ?pl ?q); (case d => assumption); (case F => with_reducible assumption); (case g => with_reducible assumption); (case k => decide); (case db => decide); (case a => rfl); (case ks => rfl); (case pl => rfl)))
local macro_rules | `(tactic| walk_at "e") => `(tactic| first | walk_at "nm" | walk_at "cn" | with_reducible refine se_bin ?_ | ((with_reducible refine' se_cmp ?q ?st); (case st => first | exact nomark _ | rfl)) | ((with_reducible refine' se_ix ?q ?st); (case st => exact fun _ _ => rfl)) | with_reducible refine sa_nil ?_ | ((with_reducible refine' sa_cons ?q ?st); (case st => rfl)) | walk_at "cf" | walk_at "ck" | with_reducible refine sk_nil ?_ | with_reducible refine sk_cons ?_ | walk_at "cb" | walk_at "ct" | walk_at "tv" | with_reducible refine se_one ?_ | ((with_reducible refine' se_chain ?q ?st); (case st => with_unfolding_all rfl)) | with_reducible refine se_tup ?_ | with_reducible refine se_lst ?_ | with_reducible refine se_and ?_ | with_reducible refine se_or ?_ | with_reducible refine se_not ?_ | with_reducible refine se_un ?_ )
local macro_rules | `(tactic| walk_at "v") => `(tactic| first | with_reducible refine ro_addI ?_ | with_reducible refine rc_isIB ?_ | with_reducible refine rc_eqB ?_ | with_reducible refine rc_neB ?_ | with_reducible refine rc_isN ?_ | with_reducible refine rc_notN ?_ | with_reducible refine ro_subI ?_ | with_reducible refine rc_eqI ?_ | with_reducible refine rc_neI ?_ | with_reducible refine rc_ltI ?_ | with_reducible refine rc_leI ?_ | with_reducible refine rc_gtI ?_ | with_reducible refine rc_geI ?_ | with_reducible refine rb_intI ?_ | with_reducible refine ru_neg ?_ | with_reducible refine rb_tupleT ?_ | ((with_reducible refine rb_isInt ?h ?q); (case h => assumption)) | ((with_reducible refine rb_isBool ?h ?q); (case h => assumption)) | ((with_reducible refine rb_isTup ?h ?q); (case h => assumption)) | with_reducible refine rb_len its_tup ?_ | (refine rx_tup (by rfl) ?_) | ((with_reducible refine' rx_lst ?h ?a ?q); (case h => with_reducible assumption); (case a => rfl)))
local macro_rules | `(tactic| walk_at "ss") => `(tactic| first | with_reducible refine ss_ret (se_fg ?_) | with_reducible refine ss_if ?_ | ((with_reducible refine' ss_expr ?q ?st); (case st => rfl)) | ((with_reducible refine' dx_set ?d _ ?h ?hs ?q); (case d => assumption); (case h => with_reducible assumption); (case hs => rfl)) | ((with_reducible refine' ss_asg (tg := .Tuple _ _ _) ?q ?hs ?hw ?h1); (case hs => rfl); (case hw => rfl); (case h1 => rfl)))
local macro_rules | `(tactic| walk_at "s") => `(tactic| first | with_reducible refine sb_one ?_ | with_reducible refine sb_cons ?_ | walk_at "ss")
local macro_rules | `(tactic| walk_at "t") => `(tactic| first | with_reducible refine st_not ?_ | ((with_reducible refine' st_cmp ?q ?st); (case st => first | exact nomark _ | rfl)) | with_reducible refine sw_and1 ?_ | with_reducible refine sw_or1 ?_ | with_reducible refine sw_or ?_ | with_reducible refine sw_and ?_ | ((with_reducible refine' st_chain ?q ?st); (case st => with_unfolding_all rfl)) | (refine st_of ?_; first | with_reducible refine sw_or ?_ | with_reducible refine sw_and ?_) | ((with_reducible refine' st_val ?q ?st); (case st => intro _; rfl)))
local macro_rules | `(tactic| walk_at "go") => `(tactic| repeat (first | walk_at "e" | walk_at "v" | walk_at "s" | walk_at "t"))
local macro_rules | `(tactic| walk_at "gt") => `(tactic| repeat (first | walk_at "e" | walk_at "v" | walk_at "ss" | walk_at "t"))
local macro_rules | `(tactic| walk_at "gx") => `(tactic| repeat (first | walk_at "e" | walk_at "v" | walk_at "ss" | walk_at "t" | refine ⟨by simp only [List.length_cons, List.length_nil]; decide, ?_⟩))
local macro_rules | `(tactic| walk_at "tg") => `(tactic| repeat (first | ((with_reducible refine' sg_tup ?q ?hc ?hn ?st); (case hc => exact DX.calm (by assumption)); (case hn => rfl); (case st => rfl)) | (refine sgs_cons ?_) | with_reducible refine sgs_nil ?_ | ((refine dx_tgt (by assumption) _ (by with_reducible assumption) ?_))))
def C_block : Con := fun ss M Q _ => ∃ p n, ∃ (way l : Int) (L : Nat) (b : Int), ss = [.ptr p, .int way, .int l, .int L, .int b] ∧ Ink M p n ∧ n ≤ 1000000000 ∧ 0 ≤ l ∧ l < L ∧ L ≤ 64 ∧ 2 ≤ b ∧ b ≤ 4 ∧
  ∀ (B : Blk) M', ((B.length : Int) = b ∧ ∀ r, r ∈ B → (r.length : Int) = b ∧ ∀ l, l ∈ r → 0 ≤ l ∧ l < L) → Sx p (n + 100) M [] M' → Q (blkT B) M'
/-- the rows of a block, cut out of its letters -/
def rowsOf (b : Nat) (gs : List Int) : Blk := (List.range b).map fun i => (gs.drop (b * i)).take b
theorem rowsOf_ok {b L : Nat} {gs : List Int} (hl : gs.length = b * b) (h : ∀ g, g ∈ gs → 0 ≤ g ∧ g < (L : Int)) : (rowsOf b gs).length = b ∧ ∀ r, r ∈ rowsOf b gs → r.length = b ∧ ∀ l, l ∈ r → 0 ≤ l ∧ l < (L : Int) := by
  refine ⟨by unfold rowsOf; simp, fun r hr => ?_⟩
  obtain ⟨i, hi, rfl⟩ := List.mem_map.mp hr
  have hi := List.mem_range.mp hi
  refine ⟨?_, fun l hl' => h l (List.mem_of_mem_drop (List.mem_of_mem_take hl'))⟩
  rw [List.length_take, List.length_drop, hl]
  have z : b * i + b ≤ b * b := by
    have : b * (i + 1) ≤ b * b := Nat.mul_le_mul_left _ hi
    rw [Nat.mul_succ] at this
    exact this
  omega
theorem cut_mid (xs : List S) (i b : Nat) (h : i + b ≤ xs.length) : cutS xs (some (i : Int)) (some ((i + b : Nat) : Int)) = (xs.drop i).take b := by
  rw [cutS_get, Nat.min_eq_left (by omega), Nat.min_eq_left (by omega)]
  congr 1
  omega
section
variable {P : Program} {w : World} {K : PySem.W.Frag} {mg : Str → Option Value} {base : Heap}
theorem sc_block : FnScope ["_law_ink_here", "_law_way", "_law_letter", "_law_letters", "_law_base", "_law_near", "_law_goals", "_law_place", "_law_goal", "_law_i"] ["_law_ink_here", "_law_way", "_law_letter", "_law_letters", "_law_base"] (defScope s_block) := ⟨rfl, rfl, rfl, by decide +kernel, rfl, by decide +kernel, by decide +kernel⟩
theorem ok_block {f : Addr} {fd : FuncData} (F : Fun K "_law_block" "_law_block" s_block f fd) (T : Txt mg) (F_drip : Fn P w K mg base "_law_drip" 1 C_drip) : FnOk P w K mg base (L2.CX P w) 2 f fd ["_law_ink_here", "_law_way", "_law_letter", "_law_letters", "_law_base"] (SpC K C_block) := by
  refine def_ok F sc_block (fun ss M Q E h => ?_) (fun X G eP ew eK em eb d ss M Q E h wi => ?_)
  · obtain ⟨p, n, way, l, L, b, rfl, hI, hn, l0, l1, hL, b0, b1, q⟩ := h; rfl
  subst eP ew eK em eb
  have dn := d.dn
  have n0 : nmB ["_law_ink_here", "_law_way", "_law_letter", "_law_letters", "_law_base", "_law_near", "_law_goals", "_law_place", "_law_goal", "_law_i"] (defScope s_block) 0 "_law_ink_here" = true := by decide +kernel
  have n1 : nmB ["_law_ink_here", "_law_way", "_law_letter", "_law_letters", "_law_base", "_law_near", "_law_goals", "_law_place", "_law_goal", "_law_i"] (defScope s_block) 1 "_law_way" = true := by decide +kernel
  have n2 : nmB ["_law_ink_here", "_law_way", "_law_letter", "_law_letters", "_law_base", "_law_near", "_law_goals", "_law_place", "_law_goal", "_law_i"] (defScope s_block) 2 "_law_letter" = true := by decide +kernel
  have n3 : nmB ["_law_ink_here", "_law_way", "_law_letter", "_law_letters", "_law_base", "_law_near", "_law_goals", "_law_place", "_law_goal", "_law_i"] (defScope s_block) 3 "_law_letters" = true := by decide +kernel
  have n4 : nmB ["_law_ink_here", "_law_way", "_law_letter", "_law_letters", "_law_base", "_law_near", "_law_goals", "_law_place", "_law_goal", "_law_i"] (defScope s_block) 4 "_law_base" = true := by decide +kernel
  have n5 : nmB ["_law_ink_here", "_law_way", "_law_letter", "_law_letters", "_law_base", "_law_near", "_law_goals", "_law_place", "_law_goal", "_law_i"] (defScope s_block) 5 "_law_near" = true := by decide +kernel
  have n6 : nmB ["_law_ink_here", "_law_way", "_law_letter", "_law_letters", "_law_base", "_law_near", "_law_goals", "_law_place", "_law_goal", "_law_i"] (defScope s_block) 6 "_law_goals" = true := by decide +kernel
  have n8 : nmB ["_law_ink_here", "_law_way", "_law_letter", "_law_letters", "_law_base", "_law_near", "_law_goals", "_law_place", "_law_goal", "_law_i"] (defScope s_block) 8 "_law_goal" = true := by decide +kernel
  have l5 : lcB ["_law_ink_here", "_law_way", "_law_letter", "_law_letters", "_law_base", "_law_near", "_law_goals", "_law_place", "_law_goal", "_law_i"] (defScope s_block) 5 "_law_near" = true := by decide +kernel
  have l6 : lcB ["_law_ink_here", "_law_way", "_law_letter", "_law_letters", "_law_base", "_law_near", "_law_goals", "_law_place", "_law_goal", "_law_i"] (defScope s_block) 6 "_law_goals" = true := by decide +kernel
  have l7 : lcB ["_law_ink_here", "_law_way", "_law_letter", "_law_letters", "_law_base", "_law_near", "_law_goals", "_law_place", "_law_goal", "_law_i"] (defScope s_block) 7 "_law_place" = true := by decide +kernel
  have l8 : lcB ["_law_ink_here", "_law_way", "_law_letter", "_law_letters", "_law_base", "_law_near", "_law_goals", "_law_place", "_law_goal", "_law_i"] (defScope s_block) 8 "_law_goal" = true := by decide +kernel
  have g__law_drip : glB (defScope s_block) "_law_drip" = true := by decide +kernel
  have g_range : glB (defScope s_block) "range" = true := by decide +kernel
  have g_min : glB (defScope s_block) "min" = true := by decide +kernel
  have g_int : glB (defScope s_block) "int" = true := by decide +kernel
  have g_tuple : glB (defScope s_block) "tuple" = true := by decide +kernel
  have t_int := T.int
  have t_min := T.min
  have t_range := T.range
  have t_tuple := T.tuple
  obtain ⟨p, n, way, l, L, b, rfl, hI, hn, l0, l1, hL, b0, b1, q⟩ := h
  conv => pattern (defBody _); whnf
  show SSs X G _ [some (.ptr p), some (.int way), some (.int l), some (.int L), some (.int b), none, none, none, none, none] M _
  have e62 : (2 : Int) ^ 62 = 4611686018427387904 := by decide
  have e63 : (2 : Int) ^ 63 = 9223372036854775808 := by decide
  have e200 : (1000000 : Int) < 2 ^ 200 := by decide
  have hz : (sizeLine : Nat) = 16777216 := sizeLine_eq
  obtain ⟨b, rfl⟩ : ∃ b' : Nat, b = b' := ⟨b.toNat, by omega⟩
  have hbb : b * b ≤ 16 := by
    have : b ≤ 4 := by omega
    exact Nat.le_trans (Nat.mul_le_mul this this) (by decide)
  have hbb0 : 4 ≤ b * b := by
    have : 2 ≤ b := by omega
    exact Nat.le_trans (by decide : 4 ≤ 2 * 2) (Nat.mul_le_mul this this)
  have s0 := Sx.of hI
  walk_at "s"
  walk_at "gt"
  refine drip_go s0 (by omega) (by omega) (by omega) fun r1 M1 a1 c1 s1 => ?_
  show SSs _ G _ [some (.ptr p), some (.int way), some (.int l), some (.int L), some (.int b), some (.int r1), none, none, none, none] M1 _
  walk_at "s"
  walk_at "gt"
  refine ⟨by decide, fun u hu => ?_⟩
  generalize e1 : updM _ u _ = M2
  have s2 := s1.gen hu e1
  show SSs _ G _ [some (.ptr p), some (.int way), some (.int l), some (.int L), some (.int b), some (.int r1), some (.ptr u), none, none, none] M2 _
  refine sb_cons ?_
  refine dx_for d (fun _ => rfl) ?_
  refine si_range1 (gl_of dn g_range) t_range ?_
  walk_at "gt"
  refine ro_mulW (a := 4) (b := 4) (by rw [Int.natAbs_natCast]; omega) (by rw [Int.natAbs_natCast]; omega) (by decide) ?_
  have ebb : (b : Int) * (b : Int) = ((b * b : Nat) : Int) := by rw [Int.natCast_mul]
  rw [ebb]
  refine ⟨_, rfl, by omega, by omega, ?_⟩
  rw [Int.toNat_natCast]
  refine ⟨fun i v' M' => i ≤ b * b ∧ ∃ (y1 y2 : Option S) (gs : List Int), v' = [some (.ptr p), some (.int way), some (.int l), some (.int L), some (.int b), some (.int r1), some (.ptr u), y1, y2, none] ∧ gs.length = i ∧ (∀ g, g ∈ gs → 0 ≤ g ∧ g ≤ (L : Int) - 1) ∧ Sx p (n + 1 + 3 * i) M [(u, .lst (gs.map S.int))] M', ⟨by omega, none, none, [], rfl, rfl, (fun g hg => nomatch hg), s2⟩, fun _ _ _ _ => True.intro, ?_, ?_⟩
  · rintro i s v' M' es ⟨hi, y1, y2, gs, rfl, hg, hgs, sx⟩
    obtain ⟨hlt, rfl⟩ := rgS_get es
    refine dx_tgt d 7 l7 ?_
    show SSs _ G _ [some (.ptr p), some (.int way), some (.int l), some (.int L), some (.int b), some (.int r1), some (.ptr u), some (.int (0 + i)), y2, none] M' _
    walk_at "s"
    walk_at "gt"
    show SSs _ G _ [some (.ptr p), some (.int way), some (.int l), some (.int L), some (.int b), some (.int r1), some (.ptr u), some (.int (0 + i)), some (.int r1), none] M' _
    refine sb_cut (fun env' M' => ∃ (g : Int) (m : Nat), env' = [some (.ptr p), some (.int way), some (.int l), some (.int L), some (.int b), some (.int r1), some (.ptr u), some (.int (0 + i)), some (.int g), none] ∧ 0 ≤ g ∧ g ≤ (L : Int) - 1 ∧ ((way = 0 ∧ m = n + 1 + 3 * i + 1) ∨ (way ≠ 0 ∧ m = n + 1 + 3 * i)) ∧ Sx p m M [(u, .lst (gs.map S.int))] M') ?_ ?_
    · walk_at "go"
      refine QB.mk ⟨fun c => ?_, fun c => ?_⟩
      · walk_at "go"
        refine drip_go sx (by omega) (by omega) (by omega) fun r M3 r0 rr s3 => ?_
        exact ⟨r, _, rfl, r0, by omega, .inl ⟨of_decide_eq_true c, rfl⟩, s3⟩
      · refine sb_nil ?_
        exact ⟨r1, _, rfl, a1, by omega, .inr ⟨of_decide_eq_false c, rfl⟩, sx⟩
    rintro env' M3 ⟨g, m, rfl, g0, g1, hm, sx⟩
    refine sb_cut (fun env' M' => ∃ (g : Int) (m : Nat), env' = [some (.ptr p), some (.int way), some (.int l), some (.int L), some (.int b), some (.int r1), some (.ptr u), some (.int (0 + i)), some (.int g), none] ∧ 0 ≤ g ∧ g ≤ (L : Int) - 1 ∧ m ≤ n + 1 + 3 * i + 2 ∧ Sx p m M [(u, .lst (gs.map S.int))] M') ?_ ?_
    · walk_at "go"
      refine QB.mk ⟨fun c => ?_, fun c => ?_⟩
      · walk_at "go"
        refine drip_go sx (by omega) (by omega) (by omega) fun r M3 r0 rr s3 => ?_
        walk_at "go"
        refine rb_min ?_ d.calm
        refine ⟨_, _, rfl, ?_, ?_, by omega, s3⟩
        · split <;> omega
        · split <;> omega
      · refine sb_nil ?_
        exact ⟨g, _, rfl, g0, g1, by omega, sx⟩
    rintro env' M3 ⟨g, m, rfl, g0, g1, hm, sx⟩
    refine sb_cut (fun env' M' => ∃ (g : Int) (m : Nat), env' = [some (.ptr p), some (.int way), some (.int l), some (.int L), some (.int b), some (.int r1), some (.ptr u), some (.int (0 + i)), some (.int g), none] ∧ 0 ≤ g ∧ g ≤ (L : Int) - 1 ∧ m ≤ n + 1 + 3 * i + 2 ∧ Sx p m M [(u, .lst (gs.map S.int))] M') ?_ ?_
    · walk_at "go"
      refine QB.mk ⟨fun c => ?_, fun c => ?_⟩
      · walk_at "go"
        refine ro_modI (by omega) ?_
        exact ⟨_, _, rfl, Int.emod_nonneg _ (by omega), by have := Int.emod_lt_of_pos (l + 1) (show (0 : Int) < L by omega)
                                                           omega, hm, sx⟩
      · refine sb_nil ?_
        exact ⟨g, _, rfl, g0, g1, hm, sx⟩
    rintro env' M3 ⟨g, m, rfl, g0, g1, hm, sx⟩
    refine sb_cut (fun env' M' => ∃ (g : Int) (C : List (Addr × MO)), env' = [some (.ptr p), some (.int way), some (.int l), some (.int L), some (.int b), some (.int r1), some (.ptr u), some (.int (0 + i)), some (.int g), none] ∧ 0 ≤ g ∧ g ≤ (L : Int) - 1 ∧ Sx p (n + 1 + 3 * i + 3) M [(u, .lst (gs.map S.int))] M') ?_ ?_
    · walk_at "go"
      refine QB.mk ⟨fun c => ?_, fun c => ?_⟩
      · walk_at "gx"
        walk_at "s"
        walk_at "gx"
        refine fun u6 h6 => ?_
        generalize e6 : updM _ u6 _ = M6
        have s6 := sx.gen h6 e6
        walk_at "gt"
        refine drip_go s6 (by omega) (by omega) (by omega) fun r M7 r0 r1' s7 => ?_
        refine rx_mem (s7.at 0 rfl) r0 r1' fun z hz => ?_
        simp only [List.mem_cons, List.not_mem_nil, or_false] at hz
        rcases hz with rfl | rfl
        · exact ⟨r1, [], rfl, a1, by omega, (s7.drop 1).up (by omega)⟩
        · exact ⟨l, [], rfl, l0, by omega, (s7.drop 1).up (by omega)⟩
      · refine sb_nil ?_
        exact ⟨g, [], rfl, g0, g1, sx.up (by omega)⟩
    rintro env' M3 ⟨g, C, rfl, g0, g1, sx⟩
    walk_at "s"
    walk_at "ss"
    refine se_append ?_
    walk_at "gt"
    refine ⟨u, rfl, ⟨_, sx.at 0 rfl⟩, ?_⟩
    walk_at "gt"
    refine ⟨_, sx.at 0 rfl, by rw [List.length_map]; omega, ?_⟩
    refine ⟨by omega, some (.int (0 + i)), some (.int g), gs ++ [g], rfl, by rw [List.length_append, hg]; rfl, fun x hx => ?_, ?_⟩
    · rcases List.mem_append.mp hx with z | z
      · exact hgs x z
      · rw [List.mem_singleton.mp z]; exact ⟨g0, g1⟩
    · rw [List.map_append]
      exact (sx.set 0 rfl).up (by omega)
  · rintro v' M' ⟨hi, y1, y2, gs, rfl, hg, hgs, sx⟩
    rw [rgS_len] at hg sx
    refine sb_cut (fun env' M' => ∃ (gs : List Int), env' = [some (.ptr p), some (.int way), some (.int l), some (.int L), some (.int b), some (.int r1), some (.ptr u), y1, y2, none] ∧ gs.length = b * b ∧ (∀ g, g ∈ gs → 0 ≤ g ∧ g ≤ (L : Int) - 1) ∧ Sx p (n + 100) M [(u, .lst (gs.map S.int))] M') ?_ ?_
    · walk_at "go"
      refine QB.mk ⟨fun c => ?_, fun c => ?_⟩
      · walk_at "go"
        refine drip_go sx (by omega) (by omega) (by omega) fun r M3 r0 rr s3 => ?_
        walk_at "go"
        refine QB.mk ⟨fun c => ?_, fun c => ?_⟩
        · refine sb_one ?_
          refine ss_asg ?_
          walk_at "gt"
          refine drip_go s3 (by omega) (by omega) (by omega) fun r' M4 r0' rr' s4 => ?_
          refine sg_item ?_
          walk_at "gt"
          refine ro_mulW (a := 4) (b := 4) (by rw [Int.natAbs_natCast]; omega) (by rw [Int.natAbs_natCast]; omega) (by decide) ?_
          rw [ebb]
          walk_at "gt"
          refine drip_go s4 (by omega) (by omega) (by omega) fun r2 M5 r20 r22 s5 => ?_
          have z := s5.set 0 rfl (o' := .lst ((gs.map S.int).set r2.toNat (.int r')))
          rw [set_ints] at z
          refine ⟨u, _, r2, r2.toNat, rfl, rfl, s5.at 0 rfl, ixN_in r20 (by rw [List.length_map]; omega), ?_⟩
          rw [set_ints]
          exact ⟨_, rfl, by rw [List.length_set]; exact hg, set_in (hi := (L : Int) - 1) hgs ⟨r0', by omega⟩, z.up (by omega)⟩
        · refine sb_nil ?_
          exact ⟨gs, rfl, hg, hgs, s3.up (by omega)⟩
      · refine ⟨fun z => (by cases z), fun _ => ?_⟩
        refine sb_nil ?_
        exact ⟨gs, rfl, hg, hgs, sx.up (by omega)⟩
    rintro env' M3 ⟨gs, rfl, hg, hgs, sx⟩
    have hrow := rowsOf_ok (L := L) hg fun g hg' => by
      have := hgs g hg'
      omega
    walk_at "s"
    walk_at "gt"
    refine dx_map dn d.nd 9 (by decide +kernel) (fun _ => rfl) ?_
    refine si_range1 (gl_of dn g_range) t_range ?_
    walk_at "gt"
    refine ⟨_, rfl, by omega, by omega, ?_⟩
    rw [Int.toNat_natCast]
    refine ⟨fun s => rowT ((gs.drop (b * (intOf s).toNat)).take b), small1000 (by rw [rgS_len]; omega), fun _ _ => True.intro, fun D M' hD hM s hs s0 H0 C0 cl0 fp0 dn1 => ?_, fun D M' hD hM eD => ?_⟩
    · obtain ⟨i, es⟩ := List.getElem?_of_mem hs
      obtain ⟨hi, rfl⟩ := rgS_get es
      have k_tuple := glf dn1 "tuple" (by decide +kernel)
      have m6 := nm_of dn1 6 "_law_goals" (by decide +kernel)
      have m4 := nm_of dn1 4 "_law_base" (by decide +kernel)
      have m9 := nm_of dn1 9 "_law_i" (by decide +kernel)
      have hib : b * i + b ≤ b * b := by
        have z : b * (i + 1) ≤ b * b := Nat.mul_le_mul_left _ hi
        rw [Nat.mul_succ] at z
        exact z
      have ei : (b : Int) * (0 + (i : Int)) = ((b * i : Nat) : Int) := by rw [Int.zero_add, Int.natCast_mul]
      have ei2 : ((b * i : Nat) : Int) + (b : Int) = ((b * i + b : Nat) : Int) := by omega
      walk_at "gt"
      refine se_cutL ?_
      walk_at "gt"
      refine .some ?_
      walk_at "gt"
      refine ro_mulW (a := 4) (b := 4) (by rw [Int.natAbs_natCast]; omega) (by omega) (by decide) ?_
      rw [ei]
      refine ⟨_, rfl, ?_⟩
      refine .some ?_
      walk_at "gt"
      refine ro_mulW (a := 4) (b := 4) (by rw [Int.natAbs_natCast]; omega) (by omega) (by decide) ?_
      rw [ei]
      walk_at "gt"
      rw [ei2]
      refine ⟨_, rfl, ?_⟩
      refine ⟨u, _, rfl, hM _ _ (sx.at 0 rfl), fun t ht => ?_⟩
      rw [cut_mid _ _ _ (by rw [List.length_map]; omega)]
      walk_at "gt"
      refine rb_tupleL updM_same ⟨?_, Sub.new ht⟩
      show S.tup _ = S.tup _
      rw [← List.map_drop, ← List.map_take]
      have e3 : (intOf (.int (0 + (i : Int)))).toNat = i := by show ((0 : Int) + (i : Int)).toNat = i; omega
      rw [e3]
    · walk_at "gt"
      refine rb_tupleL eD ?_
      have e4 : S.tup ((rgS 0 b).map fun s => rowT ((gs.drop (b * (intOf s).toNat)).take b)) = blkT (rowsOf b gs) := by
        unfold blkT rowsOf rgS
        rw [List.map_map, List.map_map]
        congr 1
        refine List.map_congr_left fun i hi => ?_
        have e3 : (intOf (.int (0 + (i : Int)))).toNat = i := by show ((0 : Int) + (i : Int)).toNat = i; omega
        show rowT _ = rowT _
        rw [e3]
      rw [e4]
      refine ⟨M3, hM, q _ _ ⟨by rw [hrow.1], fun r hr => ⟨by rw [(hrow.2 r hr).1], (hrow.2 r hr).2⟩⟩ (sx.drop 1)⟩
end

end Sy

set_option Elab.async false
set_option linter.all false
set_option maxRecDepth 100000
set_option maxHeartbeats 1000000
namespace Sy
open PySem PySem.Spec PyProof.Rows L2
local macro_rules | `(tactic| walk_at "nm") => `(tactic| ((with_reducible refine' dn_name ?d _ ?h ?he ?q); (case d => assumption); (case h => with_reducible assumption); (case he => rfl)))
local macro_rules | `(tactic| walk_at "cn") => `(tactic| first | with_reducible refine se_int ?_ | with_reducible refine se_bl ?_ | with_reducible refine se_non ?_ | with_reducible refine se_str ?_)
local macro_rules | `(tactic| walk_at "ct") => `(tactic| ((with_reducible refine' dn_callT ?d ?m ?v ?g ?n ?db ?st ?pl ?q); (case d => assumption); (case m => with_reducible assumption); (case v => first | with_reducible exact bt_int | with_reducible exact bt_tuple | with_reducible exact bt_list | with_reducible exact bt_str | with_reducible exact bt_bool); (case g => with_reducible assumption); (case n => decide); (case db => decide); (case st => rfl); (case pl => rfl)))
local macro_rules | `(tactic| walk_at "cb") => `(tactic| ((with_reducible refine' dn_callB ?d ?m ?v ?g ?n ?db ?st ?pl ?q); (case d => assumption); (case m => with_reducible assumption); (case v => first | with_reducible exact bf_len | with_reducible exact bf_isinstance | with_reducible exact bf_all | with_reducible exact bf_max | with_reducible exact bf_min | with_reducible exact bf_abs | with_reducible exact bf_sum | with_reducible exact bf_any | with_reducible exact bf_repr); (case g => with_reducible assumption); (case n => decide); (case db => decide); (case st => rfl); (case pl => rfl)))
local macro_rules | `(tactic| walk_at "cf") => `(tactic| ((with_reducible refine' dn_call ?d ?F ?g ?k ?db ?st ?pl ?q); (case d => assumption); (case F => with_reducible assumption); (case g => with_reducible assumption); (case k => decide); (case db => decide); (case st => rfl); (case pl => rfl)))
local macro_rules | `(tactic| walk_at "tv") => `(tactic| ((with_reducible refine' dn_ty ?d ?m ?v ?g ?n ?db ?q); (case d => assumption); (case m => with_reducible assumption); (case v => first | with_reducible exact bt_int | with_reducible exact bt_tuple | with_reducible exact bt_list | with_reducible exact bt_str | with_reducible exact bt_bool); (case g => with_reducible assumption); (case n => decide); (case db => decide)))
local macro_rules | `(tactic| walk_at "ck") => `(tactic| ((with_reducible refine' dn_kw ?d ?F ?g ?k ?db ?a ?ks ?pl ?q); (case d => assumption); (case F => with_reducible assumption); (case g => with_reducible assumption); (case k => decide); (case db => decide); (case a => rfl); (case ks => rfl); (case pl => rfl)))
local macro_rules | `(tactic| walk_at "e") => `(tactic| first | walk_at "nm" | walk_at "cn" | with_reducible refine se_bin ?_ | ((with_reducible refine' se_cmp ?q ?st); (case st => first | exact nomark _ | rfl)) | ((with_reducible refine' se_ix ?q ?st); (case st => exact fun _ _ => rfl)) | with_reducible refine sa_nil ?_ | ((with_reducible refine' sa_cons ?q ?st); (case st => rfl)) | walk_at "cf" | walk_at "ck" | with_reducible refine sk_nil ?_ | with_reducible refine sk_cons ?_ | walk_at "cb" | walk_at "ct" | walk_at "tv" | with_reducible refine se_one ?_ | ((with_reducible refine' se_chain ?q ?st); (case st => with_unfolding_all rfl)) | with_reducible refine se_tup ?_ | with_reducible refine se_lst ?_ | with_reducible refine se_and ?_ | with_reducible refine se_or ?_ | with_reducible refine se_not ?_ | with_reducible refine se_un ?_ )
local macro_rules | `(tactic| walk_at "v") => `(tactic| first | with_reducible refine ro_addI ?_ | with_reducible refine rc_isIB ?_ | with_reducible refine rc_eqB ?_ | with_reducible refine rc_neB ?_ | with_reducible refine rc_isN ?_ | with_reducible refine rc_notN ?_ | with_reducible refine ro_subI ?_ | with_reducible refine rc_eqI ?_ | with_reducible refine rc_neI ?_ | with_reducible refine rc_ltI ?_ | with_reducible refine rc_leI ?_ | with_reducible refine rc_gtI ?_ | with_reducible refine rc_geI ?_ | with_reducible refine rb_intI ?_ | with_reducible refine ru_neg ?_ | with_reducible refine rb_tupleT ?_ | ((with_reducible refine rb_isInt ?h ?q); (case h => assumption)) | ((with_reducible refine rb_isBool ?h ?q); (case h => assumption)) | ((with_reducible refine rb_isTup ?h ?q); (case h => assumption)) | with_reducible refine rb_len its_tup ?_ | (refine rx_tup (by rfl) ?_) | ((with_reducible refine' rx_lst ?h ?a ?q); (case h => with_reducible assumption); (case a => rfl)))
local macro_rules | `(tactic| walk_at "ss") => `(tactic| first | with_reducible refine ss_ret (se_fg ?_) | with_reducible refine ss_if ?_ | ((with_reducible refine' ss_expr ?q ?st); (case st => rfl)) | ((with_reducible refine' dx_set ?d _ ?h ?hs ?q); (case d => assumption); (case h => with_reducible assumption); (case hs => rfl)) | ((with_reducible refine' ss_asg (tg := .Tuple _ _ _) ?q ?hs ?hw ?h1); (case hs => rfl); (case hw => rfl); (case h1 => rfl)))
local macro_rules | `(tactic| walk_at "s") => `(tactic| first | with_reducible refine sb_one ?_ | with_reducible refine sb_cons ?_ | walk_at "ss")
local macro_rules | `(tactic| walk_at "t") => `(tactic| first | with_reducible refine st_not ?_ | ((with_reducible refine' st_cmp ?q ?st); (case st => first | exact nomark _ | rfl)) | with_reducible refine sw_and1 ?_ | with_reducible refine sw_or1 ?_ | with_reducible refine sw_or ?_ | with_reducible refine sw_and ?_ | ((with_reducible refine' st_chain ?q ?st); (case st => with_unfolding_all rfl)) | (refine st_of ?_; first | with_reducible refine sw_or ?_ | with_reducible refine sw_and ?_) | ((with_reducible refine' st_val ?q ?st); (case st => intro _; rfl)))
local macro_rules | `(tactic| walk_at "go") => `(tactic| repeat (first | walk_at "e" | walk_at "v" | walk_at "s" | walk_at "t"))
local macro_rules | `(tactic| walk_at "gt") => `(tactic| repeat (first | walk_at "e" | walk_at "v" | walk_at "ss" | walk_at "t"))
local macro_rules | `(tactic| walk_at "gx") => `(tactic| repeat (first | walk_at "e" | walk_at "v" | walk_at "ss" | walk_at "t" | refine ⟨by simp only [List.length_cons, List.length_nil]; decide, ?_⟩))
local macro_rules | `(tactic| walk_at "tg") => `(tactic| repeat (first | ((with_reducible refine' sg_tup ?q ?hc ?hn ?st); (case hc => exact DX.calm (by assumption)); (case hn => rfl); (case st => rfl)) | (refine sgs_cons ?_) | with_reducible refine sgs_nil ?_ | ((refine dx_tgt (by assumption) _ (by with_reducible assumption) ?_))))
theorem bookT_at1 (b : Int) (sh : List Int) (bl : List Blk) : True := True.intro
/-- rows, as a list of tuples -/
theorem blks_of {P : S → Prop} {Pb : Blk → Prop} (hp : ∀ y, P y → ∃ B, y = blkT B ∧ Pb B) : ∀ {acc : List S}, (∀ y, y ∈ acc → P y) → ∃ bl : List Blk, acc = bl.map blkT ∧ bl.length = acc.length ∧ ∀ B, B ∈ bl → Pb B
  | [], _ => ⟨[], rfl, rfl, fun n hn => nomatch hn⟩
  | a :: acc, h => by
    obtain ⟨i, rfl, h0⟩ := hp a (h a List.mem_cons_self)
    obtain ⟨ns, rfl, hl, hn⟩ := blks_of hp (acc := acc) fun y hy => h y (List.mem_cons_of_mem _ hy)
    refine ⟨i :: ns, rfl, by rw [List.length_cons, hl, List.length_cons], fun n hm => ?_⟩
    rcases List.mem_cons.mp hm with rfl | z
    · exact h0
    · exact hn n z
/-- letters under new names -/
def renB (ns : List Int) (B : Blk) : Blk := B.map fun r => r.map fun l => ns[l.toNat]?.getD 0
theorem renB_ok {b : Int} {L : Nat} {ns : List Int} {B : Blk} (pm : PermI L ns) (h : (B.length : Int) = b ∧ ∀ r, r ∈ B → (r.length : Int) = b ∧ ∀ l, l ∈ r → 0 ≤ l ∧ l < (L : Int)) : ((renB ns B).length : Int) = b ∧ ∀ r, r ∈ renB ns B → (r.length : Int) = b ∧ ∀ l, l ∈ r → 0 ≤ l ∧ l < (L : Int) := by
  refine ⟨by unfold renB; rw [List.length_map]; exact h.1, fun r hr => ?_⟩
  obtain ⟨r0, h0, rfl⟩ := List.mem_map.mp hr
  refine ⟨by rw [List.length_map]; exact (h.2 r0 h0).1, fun l hl => ?_⟩
  obtain ⟨l0, hl0, rfl⟩ := List.mem_map.mp hl
  obtain ⟨a, c⟩ := (h.2 r0 h0).2 l0 hl0
  have hi : l0.toNat < ns.length := by rw [pm.len]; omega
  rw [List.getElem?_eq_getElem hi, Option.getD_some]
  exact (pm.mem _).mp (List.getElem_mem hi)
def C_renamed : Con := fun ss M Q _ => ∃ b sh bl u ns, ss = [bookT b sh bl, .ptr u] ∧ BookOk b sh bl ∧ M u = some (.lst (ns.map S.int)) ∧ PermI sh.length ns ∧ ∀ sh' bl', sh'.length = sh.length → BookOk b sh' bl' → Q (bookT b sh' bl') M
def C_book : Con := fun ss M Q _ => ∃ p n b, ∃ (m : Nat), ss = [.ptr p, .int b, .int m] ∧ Ink M p n ∧ n ≤ 1000000 ∧ 2 ≤ b ∧ b ≤ 4 ∧ 1 ≤ m ∧ m ≤ 64 ∧ ∀ sh bl M', sh.length ≤ m → BookOk b sh bl → Sx p (n + 10000) M [] M' → Q (bookT b sh bl) M'
def items : S → List S
  | .tup xs => xs
  | _ => []
section
variable {P : Program} {w : World} {K : PySem.W.Frag} {mg : Str → Option Value} {base : Heap}
theorem at_in {xs : List S} {k : Int} {s : S} (h0 : 0 ≤ k) (h : xs[k.toNat]? = some s) : atI xs k = some s := by
  have e : ((k.toNat : Nat) : Int) = k := by omega
  rw [← e]; exact atI_nat h
theorem sc_renamed : FnScope ["_law_book_here", "_law_order_here", "_law_back", "_law_name", "_law_made", "_law_old", "_law_letter", "_law_row"] ["_law_book_here", "_law_order_here"] (defScope s_renamed) := ⟨rfl, rfl, rfl, by decide +kernel, rfl, by decide +kernel, by decide +kernel⟩
theorem ok_renamed {f : Addr} {fd : FuncData} (F : Fun K "_law_renamed" "_law_renamed" s_renamed f fd) (T : Txt mg) : FnOk P w K mg base (L2.CX P w) 1 f fd ["_law_book_here", "_law_order_here"] (SpC K C_renamed) := by
  refine def_ok F sc_renamed (fun ss M Q E h => ?_) (fun X G eP ew eK em eb d ss M Q E h wi => ?_)
  · obtain ⟨b, sh, bl, u, ns, rfl, ok, hu, pm, q⟩ := h; rfl
  subst eP ew eK em eb
  have dn := d.dn
  have n0 : nmB ["_law_book_here", "_law_order_here", "_law_back", "_law_name", "_law_made", "_law_old", "_law_letter", "_law_row"] (defScope s_renamed) 0 "_law_book_here" = true := by decide +kernel
  have n1 : nmB ["_law_book_here", "_law_order_here", "_law_back", "_law_name", "_law_made", "_law_old", "_law_letter", "_law_row"] (defScope s_renamed) 1 "_law_order_here" = true := by decide +kernel
  have n2 : nmB ["_law_book_here", "_law_order_here", "_law_back", "_law_name", "_law_made", "_law_old", "_law_letter", "_law_row"] (defScope s_renamed) 2 "_law_back" = true := by decide +kernel
  have n4 : nmB ["_law_book_here", "_law_order_here", "_law_back", "_law_name", "_law_made", "_law_old", "_law_letter", "_law_row"] (defScope s_renamed) 4 "_law_made" = true := by decide +kernel
  have n5 : nmB ["_law_book_here", "_law_order_here", "_law_back", "_law_name", "_law_made", "_law_old", "_law_letter", "_law_row"] (defScope s_renamed) 5 "_law_old" = true := by decide +kernel
  have l2 : lcB ["_law_book_here", "_law_order_here", "_law_back", "_law_name", "_law_made", "_law_old", "_law_letter", "_law_row"] (defScope s_renamed) 2 "_law_back" = true := by decide +kernel
  have l4 : lcB ["_law_book_here", "_law_order_here", "_law_back", "_law_name", "_law_made", "_law_old", "_law_letter", "_law_row"] (defScope s_renamed) 4 "_law_made" = true := by decide +kernel
  have l5 : lcB ["_law_book_here", "_law_order_here", "_law_back", "_law_name", "_law_made", "_law_old", "_law_letter", "_law_row"] (defScope s_renamed) 5 "_law_old" = true := by decide +kernel
  have g_range : glB (defScope s_renamed) "range" = true := by decide +kernel
  have g_len : glB (defScope s_renamed) "len" = true := by decide +kernel
  have g_tuple : glB (defScope s_renamed) "tuple" = true := by decide +kernel
  have t_len := T.len
  have t_range := T.range
  have t_tuple := T.tuple
  obtain ⟨b, sh, bl, u, ns, rfl, ok, hu, pm, q⟩ := h
  conv => pattern (defBody _); whnf
  show SSs X G _ [some (bookT b sh bl), some (.ptr u), none, none, none, none, none, none] M _
  have e62 : (2 : Int) ^ 62 = 4611686018427387904 := by decide
  have hz : (sizeLine : Nat) = 16777216 := sizeLine_eq
  have l1' := ok.l1
  have lb := ok.lb
  have hnl := pm.len
  have k_at : ∀ {x : Int}, x ∈ ns → atI (ns.map S.int) x = some (.int (ns[x.toNat]?.getD 0)) ∧ 0 ≤ ns[x.toNat]?.getD 0 ∧ ns[x.toNat]?.getD 0 < sh.length := fun {x} hx => by
    obtain ⟨h0, h1⟩ := (pm.mem x).mp hx
    have hi : x.toNat < ns.length := by omega
    rw [List.getElem?_eq_getElem hi, Option.getD_some]
    exact ⟨at_in h0 (by rw [List.getElem?_map, List.getElem?_eq_getElem hi]; rfl), (pm.mem _).mp (List.getElem_mem hi)⟩
  refine sb_cons ?_
  refine dx_setMap d 2 3 (by decide +kernel) (by decide +kernel) (fun _ => rfl) rfl (by decide +kernel) rfl ?_
  refine si_range1 (gl_of dn g_range) t_range ?_
  walk_at "gt"
  refine rb_len (its_lst hu) ?_
  rw [List.length_map]
  refine ⟨_, rfl, by omega, by omega, ?_⟩
  rw [Int.toNat_natCast, hnl]
  refine ⟨fun s => .int (ns.idxOf (intOf s) : Nat), small1000 (by rw [rgS_len]; omega), fun _ _ => True.intro, fun D M' hD hM s hs s0 H0 C0 cl0 fp0 dn1 => ?_, fun u1 M1 hD s1 m1 => ?_⟩
  · obtain ⟨i, es⟩ := List.getElem?_of_mem hs
    obtain ⟨hi, rfl⟩ := rgS_get es
    have m1 := nm_of dn1 1 "_law_order_here" (by decide +kernel)
    have m3 := nm_of dn1 3 "_law_name" (by decide +kernel)
    refine se_index ?_
    walk_at "gt"
    refine ⟨u, rfl, ⟨_, hM _ _ hu⟩, ?_⟩
    walk_at "gt"
    refine ⟨ns, 0 + (i : Int), rfl, hM _ _ hu, (pm.mem _).mpr (by omega), rfl, Sub.refl⟩
  have e1 : (rgS 0 sh.length).map (fun s => S.int (ns.idxOf (intOf s) : Nat)) = ((rgI sh.length).map fun x => ((ns.idxOf x : Nat) : Int)).map S.int := by
    rw [rgS_map, List.map_map, List.map_map]; rfl
  rw [e1] at m1
  generalize hbk : (rgI sh.length).map (fun x => ((ns.idxOf x : Nat) : Int)) = bk at m1
  have bkl : bk.length = sh.length := by rw [← hbk, List.length_map, rgI_len]
  have bki : ∀ x, x ∈ bk → 0 ≤ x ∧ x < (sh.length : Int) := fun x hx => by
    rw [← hbk] at hx
    obtain ⟨y, hy, rfl⟩ := List.mem_map.mp hx
    have hm := (pm.mem y).mpr (rgI_mem.mp hy)
    have := List.idxOf_lt_length_of_mem hm
    omega
  show SSs _ G _ [some (bookT b sh bl), some (.ptr u), some (.ptr u1), none, none, none, none, none] M1 _
  walk_at "s"
  walk_at "gt"
  refine ⟨by decide, fun u2 h2 => ?_⟩
  generalize e2 : updM _ u2 _ = M2
  have m2 : M2 u2 = some (.lst []) := by rw [← e2]; exact updM_same
  have s2 : Sub M1 M2 := by rw [← e2]; exact Sub.new h2
  have n2 : ∀ a o, M1 a = some o → a ≠ u2 := fun a o h => neM h h2
  show SSs _ G _ [some (bookT b sh bl), some (.ptr u), some (.ptr u1), none, some (.ptr u2), none, none, none] M2 _
  refine sb_cons ?_
  refine dx_for d (fun _ => rfl) ?_
  refine si_lst ?_
  walk_at "gt"
  refine ⟨u1, _, rfl, s2 _ _ m1, ?_⟩
  have hu2 : M2 u = some (.lst (ns.map S.int)) := s2 _ _ (s1 _ _ hu)
  refine ⟨fun i v' M' => ∃ (y5 : Option S) (bs : List Blk), v' = [some (bookT b sh bl), some (.ptr u), some (.ptr u1), none, some (.ptr u2), y5, none, none] ∧ M' u2 = some (.lst (bs.map blkT)) ∧ bs.length = i ∧ Sub M1 M' ∧ (∀ B, B ∈ bs → (B.length : Int) = b ∧ ∀ r, r ∈ B → (r.length : Int) = b ∧ ∀ l, l ∈ r → 0 ≤ l ∧ l < (sh.length : Int)), ⟨none, [], rfl, m2, rfl, s2, (fun B hB => nomatch hB)⟩, fun i v' M' ⟨y5, bs, ev, z1, z2, z3, z4⟩ => z3 _ _ m1, ?_, ?_⟩
  · rintro i s v' M' es ⟨y5, bs, rfl, mb, hbl, sm, hok⟩
    have hi : i < sh.length := by
      have := (List.getElem?_eq_some_iff.mp es).1
      rw [List.length_map] at this
      omega
    rw [List.getElem?_map] at es
    obtain ⟨x, ex, rfl⟩ := Option.map_eq_some_iff.mp es
    obtain ⟨x0, x1⟩ := bki x (List.mem_of_getElem? ex)
    have hx : x.toNat < bl.length := by omega
    have aB : atI (bl.map blkT) x = some (blkT bl[x.toNat]) := at_in x0 (by rw [List.getElem?_map, List.getElem?_eq_getElem hx]; rfl)
    have okB := ok.hb bl[x.toNat] (List.getElem_mem hx)
    generalize bl[x.toNat] = B at aB okB
    have hu' : M' u = some (.lst (ns.map S.int)) := sm _ _ (s1 _ _ hu)
    have bB : B.length ≤ 4 := by
      have h4 := ok.b1
      have h5 := okB.1
      omega
    refine dx_tgt d 5 l5 ?_
    show SSs _ G _ [some (bookT b sh bl), some (.ptr u), some (.ptr u1), none, some (.ptr u2), some (.int x), none, none] M' _
    walk_at "s"
    walk_at "ss"
    refine se_append ?_
    walk_at "gt"
    refine ⟨u2, rfl, ⟨_, mb⟩, ?_⟩
    walk_at "gt"
    refine dx_map dn d.nd 7 (by decide +kernel) (fun _ => rfl) ?_
    refine si_tup ?_
    unfold bookT
    walk_at "gt"
    refine rx_tup aB ?_
    refine ⟨_, rfl, ?_⟩
    refine ⟨fun s => .tup ((items s).map fun l => .int (ns[(intOf l).toNat]?.getD 0)), small1000 (by rw [List.length_map]; omega), fun _ _ => True.intro, fun D2 M3 hD2 hM3 s hs s0 H0 C0 cl0 fp0 dn1 => ?_, fun D2 M3 hD2 hM3 eD2 => ?_⟩
    · obtain ⟨r, hr, rfl⟩ := List.mem_map.mp hs
      obtain ⟨rl, rm⟩ := okB.2 r hr
      have k_tuple := glf dn1 "tuple" (by decide +kernel)
      have m7 := nm_of dn1 7 "_law_row" (by decide +kernel)
      walk_at "gt"
      refine dx_map dn1 d.nd 6 (by decide +kernel) (fun _ => rfl) ?_
      refine si_tup ?_
      refine dn_name dn1 7 (by decide +kernel) rfl ?_
      refine ⟨_, rfl, ?_⟩
      refine ⟨fun l => .int (ns[(intOf l).toNat]?.getD 0), small1000 (by rw [List.length_map]; have := ok.b1; omega), fun _ _ => True.intro, fun D4 M4 hD4 hM4 s hs s0 H0 C0 cl0 fp0 dn2 => ?_, fun D4 M4 hD4 hM4 eD4 => ?_⟩
      · obtain ⟨l, hl, rfl⟩ := List.mem_map.mp hs
        obtain ⟨l0, l1⟩ := rm l hl
        obtain ⟨a1, a2, a3⟩ := k_at ((pm.mem l).mpr ⟨l0, l1⟩)
        refine se_ix ?_ (fun _ _ => rfl)
        refine dn_name dn2 1 (by decide +kernel) rfl ?_
        refine dn_name dn2 6 (by decide +kernel) rfl ?_
        refine rx_lst (hM4 _ _ (hM3 _ _ hu')) a1 ⟨rfl, Sub.refl⟩
      · walk_at "gt"
        refine rb_tupleL eD4 ⟨rfl, hM4⟩
    · walk_at "gt"
      refine rb_tupleL eD2 ?_
      have e5 : S.tup ((B.map rowT).map fun s => S.tup ((items s).map fun l => .int (ns[(intOf l).toNat]?.getD 0))) = blkT (renB ns B) := by
        unfold blkT renB rowT
        rw [List.map_map, List.map_map]
        congr 1
        refine List.map_congr_left fun r _ => ?_
        show S.tup ((r.map S.int).map _) = S.tup ((r.map _).map S.int)
        rw [List.map_map, List.map_map]
        rfl
      rw [e5]
      refine ⟨_, hM3 _ _ mb, by rw [List.length_map, hbl]; omega, ?_⟩
      refine ⟨some (.int x), bs ++ [renB ns B], rfl, ?_, by rw [List.length_append, hbl]; rfl, fun a o h => ?_, fun B' hB' => ?_⟩
      · rw [List.map_append]
        exact updM_same
      · rw [updM_ne (n2 a o h)]
        exact hM3 _ _ (sm _ _ h)
      · rcases List.mem_append.mp hB' with z | z
        · exact hok B' z
        · rw [List.mem_singleton.mp z]
          exact renB_ok pm okB
  · rintro v' M' ⟨y5, bs, rfl, mb, hbl, sm, hok⟩
    rw [List.length_map, bkl] at hbl
    unfold bookT
    walk_at "gt"
    walk_at "s"
    walk_at "gt"
    refine dx_map dn d.nd 5 (by decide +kernel) (fun _ => rfl) ?_
    refine si_lst ?_
    walk_at "gt"
    refine ⟨u1, _, rfl, sm _ _ m1, fun s => .int (sh[(intOf s).toNat]?.getD 0), small1000 (by rw [List.length_map]; omega), fun M3 hM3 => hM3 _ _ (sm _ _ m1), fun D2 M3 hD2 hM3 s hs s0 H0 C0 cl0 fp0 dn1 => ?_, fun D2 M3 hD2 hM3 eD2 => ?_⟩
    · obtain ⟨x, hx, rfl⟩ := List.mem_map.mp hs
      obtain ⟨x0, x1⟩ := bki x hx
      have hx' : x.toNat < sh.length := by omega
      have m0 := nm_of dn1 0 "_law_book_here" (by decide +kernel)
      have m5 := nm_of dn1 5 "_law_old" (by decide +kernel)
      refine se_ix ?_ (fun _ _ => rfl)
      refine se_ix ?_ (fun _ _ => rfl)
      walk_at "gt"
      refine rx_tup (at_in x0 (by rw [List.getElem?_map, List.getElem?_eq_getElem hx']; rfl)) ⟨?_, Sub.refl⟩
      show S.int _ = S.int _
      rw [show (intOf (.int x)) = x from rfl, List.getElem?_eq_getElem hx']
      rfl
    walk_at "gt"
    refine rb_tupleL eD2 ?_
    walk_at "gt"
    refine rb_tupleL (hM3 _ _ mb) ?_
    walk_at "gx"
    have e6 : (bk.map S.int).map (fun s => S.int (sh[(intOf s).toNat]?.getD 0)) = (bk.map fun (x : Int) => sh[x.toNat]?.getD 0).map S.int := by rw [List.map_map, List.map_map]; rfl
    rw [e6]
    refine ⟨M, s1.trans (sm.trans hM3), q (bk.map fun (x : Int) => sh[x.toNat]?.getD 0) bs (by rw [List.length_map, bkl]) ⟨ok.b0, ok.b1, ?_, ?_, ?_, ?_, ?_⟩⟩
    · rw [List.length_map, bkl]; exact ok.l0
    · rw [List.length_map, bkl]; exact ok.l1
    · rw [List.length_map, bkl]; exact hbl
    · intro s hs
      obtain ⟨x, hx, rfl⟩ := List.mem_map.mp hs
      obtain ⟨x0, x1⟩ := bki x hx
      have hx' : x.toNat < sh.length := by omega
      rw [List.getElem?_eq_getElem hx', Option.getD_some]
      exact ok.hs _ (List.getElem_mem hx')
    · rw [List.length_map, bkl]; exact hok
theorem sc_book : FnScope ["_law_ink_here", "_law_base", "_law_most", "_law_letters", "_law_way", "_law_blocks", "_law_letter"] ["_law_ink_here", "_law_base", "_law_most"] (defScope s_book) := ⟨rfl, rfl, rfl, by decide +kernel, rfl, by decide +kernel, by decide +kernel⟩
theorem ok_book {f : Addr} {fd : FuncData} (F : Fun K "_law_book" "_law_book" s_book f fd) (T : Txt mg) (F_drip : Fn P w K mg base "_law_drip" 1 C_drip) (F_block : Fn P w K mg base "_law_block" 2 C_block) (F_shades : Fn P w K mg base "_law_shades" 2 C_shades) (F_order : Fn P w K mg base "_law_order" 2 C_order) (F_renamed : Fn P w K mg base "_law_renamed" 1 C_renamed) : FnOk P w K mg base (L2.CX P w) 3 f fd ["_law_ink_here", "_law_base", "_law_most"] (SpC K C_book) := by
  refine def_ok F sc_book (fun ss M Q E h => ?_) (fun X G eP ew eK em eb d ss M Q E h wi => ?_)
  · obtain ⟨p, n, b, m, rfl, hI, hn, b0, b1, m0, m1, q⟩ := h; rfl
  subst eP ew eK em eb
  have dn := d.dn
  have n0 : nmB ["_law_ink_here", "_law_base", "_law_most", "_law_letters", "_law_way", "_law_blocks", "_law_letter"] (defScope s_book) 0 "_law_ink_here" = true := by decide +kernel
  have n1 : nmB ["_law_ink_here", "_law_base", "_law_most", "_law_letters", "_law_way", "_law_blocks", "_law_letter"] (defScope s_book) 1 "_law_base" = true := by decide +kernel
  have n2 : nmB ["_law_ink_here", "_law_base", "_law_most", "_law_letters", "_law_way", "_law_blocks", "_law_letter"] (defScope s_book) 2 "_law_most" = true := by decide +kernel
  have n3 : nmB ["_law_ink_here", "_law_base", "_law_most", "_law_letters", "_law_way", "_law_blocks", "_law_letter"] (defScope s_book) 3 "_law_letters" = true := by decide +kernel
  have n5 : nmB ["_law_ink_here", "_law_base", "_law_most", "_law_letters", "_law_way", "_law_blocks", "_law_letter"] (defScope s_book) 5 "_law_blocks" = true := by decide +kernel
  have l3 : lcB ["_law_ink_here", "_law_base", "_law_most", "_law_letters", "_law_way", "_law_blocks", "_law_letter"] (defScope s_book) 3 "_law_letters" = true := by decide +kernel
  have l4 : lcB ["_law_ink_here", "_law_base", "_law_most", "_law_letters", "_law_way", "_law_blocks", "_law_letter"] (defScope s_book) 4 "_law_way" = true := by decide +kernel
  have l5 : lcB ["_law_ink_here", "_law_base", "_law_most", "_law_letters", "_law_way", "_law_blocks", "_law_letter"] (defScope s_book) 5 "_law_blocks" = true := by decide +kernel
  have g__law_drip : glB (defScope s_book) "_law_drip" = true := by decide +kernel
  have g_range : glB (defScope s_book) "range" = true := by decide +kernel
  have g__law_renamed : glB (defScope s_book) "_law_renamed" = true := by decide +kernel
  have g__law_shades : glB (defScope s_book) "_law_shades" = true := by decide +kernel
  have g_tuple : glB (defScope s_book) "tuple" = true := by decide +kernel
  have g__law_order : glB (defScope s_book) "_law_order" = true := by decide +kernel
  have t_range := T.range
  have t_tuple := T.tuple
  obtain ⟨p, n, b, m, rfl, hI, hn, b0, b1, m0, m1, q⟩ := h
  conv => pattern (defBody _); whnf
  show SSs X G _ [some (.ptr p), some (.int b), some (.int m), none, none, none, none] M _
  have e62 : (2 : Int) ^ 62 = 4611686018427387904 := by decide
  have e200 : (1000000 : Int) < 2 ^ 200 := by decide
  have s0 := Sx.of hI
  walk_at "s"
  walk_at "gt"
  refine drip_go s0 (by omega) (by omega) (by omega) fun r1 M1 a1 c1 s1 => ?_
  obtain ⟨L, eL⟩ : ∃ L : Nat, 1 + r1 = L := ⟨(1 + r1).toNat, by omega⟩
  refine ro_addI ?_
  rw [eL]
  show SSs _ G _ [some (.ptr p), some (.int b), some (.int m), some (.int L), none, none, none] M1 _
  walk_at "s"
  walk_at "gt"
  refine drip_go s1 (by omega) (by omega) (by omega) fun r2 M2 a2 c2 s2 => ?_
  show SSs _ G _ [some (.ptr p), some (.int b), some (.int m), some (.int L), some (.int r2), none, none] M2 _
  refine sb_cons ?_
  refine dx_setDraw d 5 6 (by decide +kernel) (by decide +kernel) (fun _ => rfl) rfl (by decide +kernel) rfl ?_
  refine si_range1 (gl_of dn g_range) t_range ?_
  walk_at "gt"
  refine ⟨_, rfl, by omega, by omega, ?_⟩
  rw [Int.toNat_natCast]
  refine ⟨p, _, M, _, 100, fun y => ∃ B, y = blkT B ∧ ((B.length : Int) = b ∧ ∀ r, r ∈ B → (r.length : Int) = b ∧ ∀ l, l ∈ r → 0 ≤ l ∧ l < (L : Int)), s2, by rw [rgS_len]; omega, fun _ _ _ _ => True.intro, fun j s m' D acc M' es hm0 hm1 hl sx s0 H0 C0 cl0 fp0 dn1 => ?_, fun D acc M3 hl hp s3 => ?_⟩
  · obtain ⟨hj, rfl⟩ := rgS_get es
    have k__law_block := glf dn1 "_law_block" (by decide +kernel)
    have m0 := nm_of dn1 0 "_law_ink_here" (by decide +kernel)
    have m4 := nm_of dn1 4 "_law_way" (by decide +kernel)
    have m6 := nm_of dn1 6 "_law_letter" (by decide +kernel)
    have m3 := nm_of dn1 3 "_law_letters" (by decide +kernel)
    have m1 := nm_of dn1 1 "_law_base" (by decide +kernel)
    walk_at "gt"
    exact ⟨p, _, _, _, _, _, rfl, sx.ink, by omega, by omega, by omega, by omega, b0, b1, fun B M3 hB s3 => ⟨⟨B, rfl, hB⟩, sx.call s3⟩⟩
  rw [rgS_len] at hl s3
  obtain ⟨bl, rfl, hl2, hbl⟩ := blks_of (fun y h => h) hp
  rw [hl] at hl2
  show SSs _ G _ [some (.ptr p), some (.int b), some (.int m), some (.int L), some (.int r2), some (.ptr D), none] M3 _
  walk_at "gt"
  walk_at "s"
  walk_at "gt"
  refine ⟨p, _, L, rfl, s3.ink, by omega, by omega, by omega, fun sh M4 hsl hsh t4 => ?_⟩
  have s4 := s3.call t4
  walk_at "gt"
  refine rb_tupleL (s4.at 0 rfl) ?_
  walk_at "gx"
  refine ⟨p, _, L, rfl, s4.ink, by omega, by omega, fun u ns M5 pm t5 => ?_⟩
  have s5 := s4.call t5
  walk_at "gt"
  have bok : BookOk b sh bl := ⟨b0, b1, by omega, by omega, by omega, hsh, by rw [hsl]; exact hbl⟩
  refine ⟨b, sh, bl, u, ns, rfl, bok, s5.at 0 rfl, by rw [hsl]; exact pm, fun sh' bl' e1 ok' => ?_⟩
  exact ⟨_, Sub.refl, q sh' bl' M5 (by omega) ok' ((s5.drop 2).up (by omega))⟩
end

end Sy

set_option Elab.async false
set_option linter.all false
set_option maxRecDepth 100000
set_option maxHeartbeats 1000000
namespace Sy
open PySem PySem.Spec PyProof.Rows L2
local macro_rules | `(tactic| walk_at "nm") => `(tactic| ((with_reducible refine' dn_name ?d _ ?h ?he ?q); (case d => assumption); (case h => with_reducible assumption); (case he => rfl)))
local macro_rules | `(tactic| walk_at "cn") => `(tactic| first | with_reducible refine se_int ?_ | with_reducible refine se_bl ?_ | with_reducible refine se_non ?_ | with_reducible refine se_str ?_)
local macro_rules | `(tactic| walk_at "ct") => `(tactic| ((with_reducible refine' dn_callT ?d ?m ?v ?g ?n ?db ?st ?pl ?q); (case d => assumption); (case m => with_reducible assumption); (case v => first | with_reducible exact bt_int | with_reducible exact bt_tuple | with_reducible exact bt_list | with_reducible exact bt_str | with_reducible exact bt_bool); (case g => with_reducible assumption); (case n => decide); (case db => decide); (case st => rfl); (case pl => rfl)))
local macro_rules | `(tactic| walk_at "cb") => `(tactic| ((with_reducible refine' dn_callB ?d ?m ?v ?g ?n ?db ?st ?pl ?q); (case d => assumption); (case m => with_reducible assumption); (case v => first | with_reducible exact bf_len | with_reducible exact bf_isinstance | with_reducible exact bf_all | with_reducible exact bf_max | with_reducible exact bf_min | with_reducible exact bf_abs | with_reducible exact bf_sum | with_reducible exact bf_any | with_reducible exact bf_repr); (case g => with_reducible assumption); (case n => decide); (case db => decide); (case st => rfl); (case pl => rfl)))
local macro_rules | `(tactic| walk_at "cf") => `(tactic| ((with_reducible refine' dn_call ?d ?F ?g ?k ?db ?st ?pl ?q); (case d => assumption); (case F => with_reducible assumption); (case g => with_reducible assumption); (case k => decide); (case db => decide); (case st => rfl); (case pl => rfl)))
local macro_rules | `(tactic| walk_at "tv") => `(tactic| ((with_reducible refine' dn_ty ?d ?m ?v ?g ?n ?db ?q); (case d => assumption); (case m => with_reducible assumption); (case v => first | with_reducible exact bt_int | with_reducible exact bt_tuple | with_reducible exact bt_list | with_reducible exact bt_str | with_reducible exact bt_bool); (case g => with_reducible assumption); (case n => decide); (case db => decide)))
local macro_rules | `(tactic| walk_at "ck") => `(tactic| ((with_reducible refine' dn_kw ?d ?F ?g ?k ?db ?a ?ks ?pl ?q); (case d => assumption); (case F => with_reducible assumption); (case g => with_reducible assumption); (case k => decide); (case db => decide); (case a => rfl); (case ks => rfl); (case pl => rfl)))
local macro_rules | `(tactic| walk_at "e") => `(tactic| first | walk_at "nm" | walk_at "cn" | with_reducible refine se_bin ?_ | ((with_reducible refine' se_cmp ?q ?st); (case st => first | exact nomark _ | rfl)) | ((with_reducible refine' se_ix ?q ?st); (case st => exact fun _ _ => rfl)) | with_reducible refine sa_nil ?_ | ((with_reducible refine' sa_cons ?q ?st); (case st => rfl)) | walk_at "cf" | walk_at "ck" | with_reducible refine sk_nil ?_ | with_reducible refine sk_cons ?_ | walk_at "cb" | walk_at "ct" | walk_at "tv" | with_reducible refine se_one ?_ | ((with_reducible refine' se_chain ?q ?st); (case st => with_unfolding_all rfl)) | with_reducible refine se_tup ?_ | with_reducible refine se_lst ?_ | with_reducible refine se_and ?_ | with_reducible refine se_or ?_ | with_reducible refine se_not ?_ | with_reducible refine se_un ?_ )
local macro_rules | `(tactic| walk_at "v") => `(tactic| first | with_reducible refine ro_addI ?_ | with_reducible refine rc_isIB ?_ | with_reducible refine rc_eqB ?_ | with_reducible refine rc_neB ?_ | with_reducible refine rc_isN ?_ | with_reducible refine rc_notN ?_ | with_reducible refine ro_subI ?_ | with_reducible refine rc_eqI ?_ | with_reducible refine rc_neI ?_ | with_reducible refine rc_ltI ?_ | with_reducible refine rc_leI ?_ | with_reducible refine rc_gtI ?_ | with_reducible refine rc_geI ?_ | with_reducible refine rb_intI ?_ | with_reducible refine ru_neg ?_ | with_reducible refine rb_tupleT ?_ | ((with_reducible refine rb_isInt ?h ?q); (case h => assumption)) | ((with_reducible refine rb_isBool ?h ?q); (case h => assumption)) | ((with_reducible refine rb_isTup ?h ?q); (case h => assumption)) | with_reducible refine rb_len its_tup ?_ | (refine rx_tup (by rfl) ?_) | ((with_reducible refine' rx_lst ?h ?a ?q); (case h => with_reducible assumption); (case a => rfl)))
local macro_rules | `(tactic| walk_at "ss") => `(tactic| first | with_reducible refine ss_ret (se_fg ?_) | with_reducible refine ss_if ?_ | ((with_reducible refine' ss_expr ?q ?st); (case st => rfl)) | ((with_reducible refine' dx_set ?d _ ?h ?hs ?q); (case d => assumption); (case h => with_reducible assumption); (case hs => rfl)) | ((with_reducible refine' ss_asg (tg := .Tuple _ _ _) ?q ?hs ?hw ?h1); (case hs => rfl); (case hw => rfl); (case h1 => rfl)))
local macro_rules | `(tactic| walk_at "s") => `(tactic| first | with_reducible refine sb_one ?_ | with_reducible refine sb_cons ?_ | walk_at "ss")
local macro_rules | `(tactic| walk_at "t") => `(tactic| first | with_reducible refine st_not ?_ | ((with_reducible refine' st_cmp ?q ?st); (case st => first | exact nomark _ | rfl)) | with_reducible refine sw_and1 ?_ | with_reducible refine sw_or1 ?_ | with_reducible refine sw_or ?_ | with_reducible refine sw_and ?_ | ((with_reducible refine' st_chain ?q ?st); (case st => with_unfolding_all rfl)) | (refine st_of ?_; first | with_reducible refine sw_or ?_ | with_reducible refine sw_and ?_) | ((with_reducible refine' st_val ?q ?st); (case st => intro _; rfl)))
local macro_rules | `(tactic| walk_at "go") => `(tactic| repeat (first | walk_at "e" | walk_at "v" | walk_at "s" | walk_at "t"))
local macro_rules | `(tactic| walk_at "gt") => `(tactic| repeat (first | walk_at "e" | walk_at "v" | walk_at "ss" | walk_at "t"))
local macro_rules | `(tactic| walk_at "gx") => `(tactic| repeat (first | walk_at "e" | walk_at "v" | walk_at "ss" | walk_at "t" | refine ⟨by simp only [List.length_cons, List.length_nil]; decide, ?_⟩))
local macro_rules | `(tactic| walk_at "tg") => `(tactic| repeat (first | ((with_reducible refine' sg_tup ?q ?hc ?hn ?st); (case hc => exact DX.calm (by assumption)); (case hn => rfl); (case st => rfl)) | (refine sgs_cons ?_) | with_reducible refine sgs_nil ?_ | ((refine dx_tgt (by assumption) _ (by with_reducible assumption) ?_))))
/-- a table at u, all of it at places of A -/
structure T2 (A : Addr → Prop) (M : Mem) (u : Addr) (rows : List (List Int)) : Prop where
  ex : ∃ us : List Addr, us.length = rows.length ∧ A u ∧ M u = some (.lst (us.map S.ptr)) ∧ ∀ (i : Nat) (a : Addr) (r : List Int), us[i]? = some a → rows[i]? = some r → A a ∧ M a = some (.lst (r.map S.int))
structure T3 (A : Addr → Prop) (M : Mem) (u : Addr) (ss : List (List (List Int))) : Prop where
  ex : ∃ vs : List Addr, vs.length = ss.length ∧ A u ∧ M u = some (.lst (vs.map S.ptr)) ∧ ∀ (i : Nat) (v : Addr) (rows : List (List Int)), vs[i]? = some v → ss[i]? = some rows → T2 A M v rows
theorem T2.frame {A A' : Addr → Prop} {M M' : Mem} {u : Addr} {rows : List (List Int)} (h : T2 A M u rows) (k : ∀ p o, A p → M p = some o → M' p = some o) (e : ∀ p, A p → A' p) : T2 A' M' u rows := by
  obtain ⟨us, h1, h2, h3, h4⟩ := h
  exact ⟨us, h1, e _ h2, k _ _ h2 h3, fun i a r x y => ⟨e _ (h4 i a r x y).1, k _ _ (h4 i a r x y).1 (h4 i a r x y).2⟩⟩
theorem T3.frame {A A' : Addr → Prop} {M M' : Mem} {u : Addr} {ss : List (List (List Int))} (h : T3 A M u ss) (k : ∀ p o, A p → M p = some o → M' p = some o) (e : ∀ p, A p → A' p) : T3 A' M' u ss := by
  obtain ⟨us, h1, h2, h3, h4⟩ := h
  exact ⟨us, h1, e _ h2, k _ _ h2 h3, fun i a r x y => (h4 i a r x y).frame k e⟩
theorem T2.sub {A : Addr → Prop} {M M' : Mem} {u : Addr} {rows : List (List Int)} (h : T2 A M u rows) (k : Sub M M') : T2 (fun _ => True) M' u rows := h.frame (fun p o _ z => k p o z) fun _ _ => True.intro
theorem T3.sub {A : Addr → Prop} {M M' : Mem} {u : Addr} {ss : List (List (List Int))} (h : T3 A M u ss) (k : Sub M M') : T3 (fun _ => True) M' u ss := h.frame (fun p o _ z => k p o z) fun _ _ => True.intro
theorem T2.nx {M0 M : Mem} {u : Addr} {us : List Addr} {rows : List (List Int)} (hl : us.length = rows.length) (s : Nx M0 (tabU u us rows) M) : T2 (fun a => M0 a = none) M u rows := ⟨us, hl, (s.has _ List.mem_cons_self).2, (s.has _ List.mem_cons_self).1, fun i a r h1 h2 => by
  obtain ⟨z1, z2⟩ := s.has (a, .lst (r.map S.int)) (List.mem_cons_of_mem _ (List.mem_of_getElem? (tabC_get h1 h2)))
  exact ⟨z2, z1⟩⟩
theorem T2.tab {A : Addr → Prop} {M : Mem} {u : Addr} {rows : List (List Int)} (h : T2 A M u rows) : Tab M u rows := by
  obtain ⟨us, h1, h2, h3, h4⟩ := h
  exact ⟨us, h1, h3, fun i a r x y => (h4 i a r x y).2⟩
/-! ### what stands in them -/
def pickI (ss : List (List (List Int))) (k : Nat) (x : Int) : List Int := ((ss[x.toNat]?.getD [])[k]?).getD []
def rowAt (ss : List (List (List Int))) (line : List Int) (k : Nat) : List Int := line.flatMap (pickI ss k)
def expd (ss : List (List (List Int))) (n : Nat) (G : List (List Int)) : List (List Int) := G.flatMap fun line => (List.range n).map (rowAt ss line)
structure Sq (ss : List (List (List Int))) (L n : Nat) : Prop where
  len : ss.length = L
  rows : ∀ x, x ∈ ss → x.length = n ∧ ∀ r, r ∈ x → r.length = n
theorem flat_len {α β : Type} {f : α → List β} {n : Nat} : ∀ {xs : List α}, (∀ x, x ∈ xs → (f x).length = n) → (xs.flatMap f).length = xs.length * n
  | [], _ => by simp
  | x :: xs, h => by
    rw [List.flatMap_cons, List.length_append, h x List.mem_cons_self, flat_len fun y hy => h y (List.mem_cons_of_mem _ hy), List.length_cons, Nat.succ_mul]
    omega
theorem Sq.at {ss : List (List (List Int))} {L n : Nat} (h : Sq ss L n) {x : Int} (h0 : 0 ≤ x) (h1 : x < L) {k : Nat} (hk : k < n) : ∃ rows r, ss[x.toNat]? = some rows ∧ rows[k]? = some r ∧ pickI ss k x = r ∧ r.length = n ∧ rows.length = n := by
  have hx : x.toNat < ss.length := by have := h.len; omega
  obtain ⟨z1, z2⟩ := h.rows _ (List.getElem_mem hx)
  have hk' : k < ss[x.toNat].length := by omega
  refine ⟨ss[x.toNat], ss[x.toNat][k], List.getElem?_eq_getElem hx, List.getElem?_eq_getElem hk', ?_, z2 _ (List.getElem_mem hk'), z1⟩
  unfold pickI
  rw [List.getElem?_eq_getElem hx, Option.getD_some, List.getElem?_eq_getElem hk', Option.getD_some]
theorem Sq.row {ss : List (List (List Int))} {L n : Nat} (h : Sq ss L n) {line : List Int} (hl : ∀ x, x ∈ line → 0 ≤ x ∧ x < (L : Int)) {k : Nat} (hk : k < n) : (rowAt ss line k).length = line.length * n := flat_len fun x hx => by
  obtain ⟨rows, r, _, _, e, e2, _⟩ := h.at (hl x hx).1 (hl x hx).2 hk
  rw [e, e2]
theorem vs_snoc {α : Type} {vs : List α} {v w : α} {j i : Nat} (h : vs.length = j) (e : (vs ++ [v])[i]? = some w) : (i < j ∧ vs[i]? = some w) ∨ (i = j ∧ w = v) := by
  by_cases hi : i < j
  · rw [List.getElem?_append_left (by omega)] at e
    exact .inl ⟨hi, e⟩
  · have hlt := (List.getElem?_eq_some_iff.mp e).1
    rw [List.length_append, List.length_singleton] at hlt
    have ei : i = j := by omega
    rw [ei, List.getElem?_append_right (by omega), h, Nat.sub_self] at e
    exact .inr ⟨ei, by simpa using e.symm⟩
def C_first : Con := fun ss M Q _ => ∃ b sh bl, ss = [bookT b sh bl] ∧ sh.length ≤ 64 ∧ ∀ u M', Sub M M' → T3 (fun a => M a = none) M' u (sh.map fun x => [[x]]) → Q (.ptr u) M'
def C_next : Con := fun ss M Q _ => ∃ b sh bl u tt n, ss = [bookT b sh bl, .ptr u] ∧ BookOk b sh bl ∧ Sq tt sh.length n ∧ n ≤ 100 ∧ T3 (fun _ => True) M u tt ∧ ∀ v M', Sub M M' → T3 (fun a => M a = none) M' v (bl.map (expd tt n)) → Q (.ptr v) M'
section
variable {P : Program} {w : World} {K : PySem.W.Frag} {mg : Str → Option Value} {base : Heap}
theorem sc_first_sheets : FnScope ["_law_book_here", "_law_shade"] ["_law_book_here"] (defScope s_first_sheets) := ⟨rfl, rfl, rfl, by decide +kernel, rfl, by decide +kernel, by decide +kernel⟩
theorem ok_first_sheets {f : Addr} {fd : FuncData} (F : Fun K "_law_first_sheets" "_law_first_sheets" s_first_sheets f fd) (T : Txt mg) : FnOk P w K mg base (L2.CX P w) 1 f fd ["_law_book_here"] (SpC K C_first) := by
  refine def_ok F sc_first_sheets (fun ss M Q E h => ?_) (fun X G eP ew eK em eb d ss M Q E h wi => ?_)
  · obtain ⟨b, sh, bl, rfl, hl, q⟩ := h; rfl
  subst eP ew eK em eb
  have dn := d.dn
  have n0 : nmB ["_law_book_here", "_law_shade"] (defScope s_first_sheets) 0 "_law_book_here" = true := by decide +kernel
  obtain ⟨b, sh, bl, rfl, hl, q⟩ := h
  conv => pattern (defBody _); whnf
  show SSs X G _ [some (bookT b sh bl), none] M _
  have hz : (sizeLine : Nat) = 16777216 := sizeLine_eq
  unfold bookT
  walk_at "s"
  walk_at "gt"
  refine dx_lcR dn d.nd 1 (by decide +kernel) (fun _ => rfl) ?_
  refine si_tup ?_
  walk_at "gt"
  refine ⟨_, rfl, ?_⟩
  intro D hD
  refine ⟨fun j acc M' => j ≤ sh.length ∧ ∃ vs : List Addr, vs.length = j ∧ acc = vs.map S.ptr ∧ Nx M [(D, .lst acc)] M' ∧ ∀ (i : Nat) (v : Addr) (x : Int), vs[i]? = some v → sh[i]? = some x → T2 (fun a => M a = none ∧ a ≠ D) M' v [[x]], ⟨Nat.zero_le _, [], rfl, rfl, Nx.of.new hD, fun i v x h => by simp at h⟩, fun _ _ _ _ _ => True.intro, ?_, ?_⟩
  · intro j s acc M' es eD ⟨hj, vs, hvl, ea, eM, hv⟩ s0 H0 C0 cl0 fp0 dn1
    rw [List.getElem?_map] at es
    obtain ⟨x, hx, rfl⟩ := Option.map_eq_some_iff.mp es
    have hlt : j < sh.length := (List.getElem?_eq_some_iff.mp hx).1
    have m1 := nm_of dn1 1 "_law_shade" (by decide +kernel)
    walk_at "gx"
    intro p hp
    refine sa_nil ⟨by simp only [List.length_cons, List.length_nil]; omega, fun p2 hp2 => ?_⟩
    have z1 := eM.new hp (o := .lst [.int x])
    have z2 := z1.new hp2 (o := .lst [.ptr p])
    have z3 := z2.set 2 rfl (o' := .lst (acc ++ [.ptr p2]))
    have ne1 : p ≠ D := neM eD hp |>.symm
    have ne2 : p2 ≠ D := neM (Sub.new hp _ _ eD) hp2 |>.symm
    refine ⟨z2.at 2 rfl, by rw [ea, List.length_map]; omega, hlt, vs ++ [p2], by rw [List.length_append, hvl]; rfl, by rw [ea, List.map_append]; rfl, z3.drop 2, fun i v y h1 h2 => ?_⟩
    rcases vs_snoc hvl h1 with ⟨h3, h4⟩ | ⟨rfl, rfl⟩
    · refine (hv i v y h4 h2).frame (fun a o ha z => ?_) fun _ z => z
      rw [updM_ne ha.2]
      exact (Sub.new hp2) _ _ (Sub.new hp _ _ z)
    · rw [hx] at h2
      cases h2
      refine ⟨[p], rfl, ⟨(z2.has _ List.mem_cons_self).2, ne2⟩, z3.at 0 rfl, fun i a r h5 h6 => ?_⟩
      match i, h5, h6 with
      | 0, h5, h6 =>
        cases h5; cases h6
        exact ⟨⟨(z1.has _ List.mem_cons_self).2, ne1⟩, z3.at 1 rfl⟩
      | i + 1, h5, h6 => simp at h5
  · intro acc M' eD ⟨hj, vs, hvl, ea, eM, hv⟩
    rw [List.length_map] at hvl
    refine ⟨M', Sub.refl, q D M' eM.sub ⟨vs, by rw [List.length_map]; exact hvl, hD, by rw [eD, ea], fun i v rows h1 h2 => ?_⟩⟩
    rw [List.getElem?_map] at h2
    obtain ⟨x, hx, rfl⟩ := Option.map_eq_some_iff.mp h2
    exact (hv i v x h1 hx).frame (fun _ _ _ z => z) fun _ z => z.1
theorem sc_next_sheets : FnScope ["_law_book_here", "_law_sheets", "_law_made", "_law_block_here", "_law_rows", "_law_line", "_law_k", "_law_row", "_law_letter"] ["_law_book_here", "_law_sheets"] (defScope s_next_sheets) := ⟨rfl, rfl, rfl, by decide +kernel, rfl, by decide +kernel, by decide +kernel⟩
theorem ok_next_sheets {f : Addr} {fd : FuncData} (F : Fun K "_law_next_sheets" "_law_next_sheets" s_next_sheets f fd) (T : Txt mg) : FnOk P w K mg base (L2.CX P w) 1 f fd ["_law_book_here", "_law_sheets"] (SpC K C_next) := by
  refine def_ok F sc_next_sheets (fun ss M Q E h => ?_) (fun X G eP ew eK em eb d ss M Q E h wi => ?_)
  · obtain ⟨b, sh, bl, u, tt, n, rfl, ok, sq, hn, ht, q⟩ := h; rfl
  subst eP ew eK em eb
  have dn := d.dn
  have n0 : nmB ["_law_book_here", "_law_sheets", "_law_made", "_law_block_here", "_law_rows", "_law_line", "_law_k", "_law_row", "_law_letter"] (defScope s_next_sheets) 0 "_law_book_here" = true := by decide +kernel
  have n1 : nmB ["_law_book_here", "_law_sheets", "_law_made", "_law_block_here", "_law_rows", "_law_line", "_law_k", "_law_row", "_law_letter"] (defScope s_next_sheets) 1 "_law_sheets" = true := by decide +kernel
  have n2 : nmB ["_law_book_here", "_law_sheets", "_law_made", "_law_block_here", "_law_rows", "_law_line", "_law_k", "_law_row", "_law_letter"] (defScope s_next_sheets) 2 "_law_made" = true := by decide +kernel
  have n3 : nmB ["_law_book_here", "_law_sheets", "_law_made", "_law_block_here", "_law_rows", "_law_line", "_law_k", "_law_row", "_law_letter"] (defScope s_next_sheets) 3 "_law_block_here" = true := by decide +kernel
  have n4 : nmB ["_law_book_here", "_law_sheets", "_law_made", "_law_block_here", "_law_rows", "_law_line", "_law_k", "_law_row", "_law_letter"] (defScope s_next_sheets) 4 "_law_rows" = true := by decide +kernel
  have n5 : nmB ["_law_book_here", "_law_sheets", "_law_made", "_law_block_here", "_law_rows", "_law_line", "_law_k", "_law_row", "_law_letter"] (defScope s_next_sheets) 5 "_law_line" = true := by decide +kernel
  have n6 : nmB ["_law_book_here", "_law_sheets", "_law_made", "_law_block_here", "_law_rows", "_law_line", "_law_k", "_law_row", "_law_letter"] (defScope s_next_sheets) 6 "_law_k" = true := by decide +kernel
  have n7 : nmB ["_law_book_here", "_law_sheets", "_law_made", "_law_block_here", "_law_rows", "_law_line", "_law_k", "_law_row", "_law_letter"] (defScope s_next_sheets) 7 "_law_row" = true := by decide +kernel
  have n8 : nmB ["_law_book_here", "_law_sheets", "_law_made", "_law_block_here", "_law_rows", "_law_line", "_law_k", "_law_row", "_law_letter"] (defScope s_next_sheets) 8 "_law_letter" = true := by decide +kernel
  have l2 : lcB ["_law_book_here", "_law_sheets", "_law_made", "_law_block_here", "_law_rows", "_law_line", "_law_k", "_law_row", "_law_letter"] (defScope s_next_sheets) 2 "_law_made" = true := by decide +kernel
  have l3 : lcB ["_law_book_here", "_law_sheets", "_law_made", "_law_block_here", "_law_rows", "_law_line", "_law_k", "_law_row", "_law_letter"] (defScope s_next_sheets) 3 "_law_block_here" = true := by decide +kernel
  have l4 : lcB ["_law_book_here", "_law_sheets", "_law_made", "_law_block_here", "_law_rows", "_law_line", "_law_k", "_law_row", "_law_letter"] (defScope s_next_sheets) 4 "_law_rows" = true := by decide +kernel
  have l5 : lcB ["_law_book_here", "_law_sheets", "_law_made", "_law_block_here", "_law_rows", "_law_line", "_law_k", "_law_row", "_law_letter"] (defScope s_next_sheets) 5 "_law_line" = true := by decide +kernel
  have l6 : lcB ["_law_book_here", "_law_sheets", "_law_made", "_law_block_here", "_law_rows", "_law_line", "_law_k", "_law_row", "_law_letter"] (defScope s_next_sheets) 6 "_law_k" = true := by decide +kernel
  have l7 : lcB ["_law_book_here", "_law_sheets", "_law_made", "_law_block_here", "_law_rows", "_law_line", "_law_k", "_law_row", "_law_letter"] (defScope s_next_sheets) 7 "_law_row" = true := by decide +kernel
  have l8 : lcB ["_law_book_here", "_law_sheets", "_law_made", "_law_block_here", "_law_rows", "_law_line", "_law_k", "_law_row", "_law_letter"] (defScope s_next_sheets) 8 "_law_letter" = true := by decide +kernel
  have g_range : glB (defScope s_next_sheets) "range" = true := by decide +kernel
  have g_len : glB (defScope s_next_sheets) "len" = true := by decide +kernel
  have t_len := T.len
  have t_range := T.range
  obtain ⟨b, sh, bl, u, tt, n, rfl, ok, sq, hn, ht, q⟩ := h
  conv => pattern (defBody _); whnf
  show SSs X G _ [some (bookT b sh bl), some (.ptr u), none, none, none, none, none, none, none] M _
  have hz : (sizeLine : Nat) = 16777216 := sizeLine_eq
  have e62 : (2 : Int) ^ 62 = 4611686018427387904 := by decide
  have b1 := ok.b1
  have l1' := ok.l1
  have l0' := ok.l0
  have lb := ok.lb
  walk_at "s"
  walk_at "gt"
  refine ⟨by decide, fun D hD => ?_⟩
  generalize e1 : updM _ D _ = M1
  have s1 := (Nx.of (M := M)).gen hD e1
  show SSs _ G _ [some (bookT b sh bl), some (.ptr u), some (.ptr D), none, none, none, none, none, none] M1 _
  unfold bookT
  refine sb_cons ?_
  refine dx_for d (fun _ => rfl) ?_
  refine si_tup ?_
  walk_at "gt"
  refine ⟨_, rfl, ?_⟩
  refine ⟨fun i v' M' => i ≤ bl.length ∧ ∃ (y1 y2 y3 y4 y5 y6 : Option S) (vs : List Addr), v' = [some (.tup [.int b, .tup (sh.map S.int), .tup (bl.map blkT)]), some (.ptr u), some (.ptr D), y1, y2, y3, y4, y5, y6] ∧ vs.length = i ∧ Nx M [(D, .lst (vs.map S.ptr))] M' ∧ ∀ (i : Nat) (v : Addr) (B : Blk), vs[i]? = some v → bl[i]? = some B → T2 (fun a => M a = none ∧ a ≠ D) M' v (expd tt n B), ⟨Nat.zero_le _, none, none, none, none, none, none, [], rfl, rfl, s1, fun i v B h => by simp at h⟩, fun _ _ _ _ => True.intro, ?_, ?_⟩
  · rintro i s v' M' es ⟨hi, y1, y2, y3, y4, y5, y6, vs, rfl, hvl, sx, hv⟩
    rw [List.getElem?_map] at es
    obtain ⟨B, hB, rfl⟩ := Option.map_eq_some_iff.mp es
    have hlt : i < bl.length := (List.getElem?_eq_some_iff.mp hB).1
    obtain ⟨hB1, hB2⟩ := ok.hb B (List.mem_of_getElem? hB)
    refine dx_tgt d 3 l3 ?_
    show SSs _ G _ [some (bookT b sh bl), some (.ptr u), some (.ptr D), some (blkT B), y2, y3, y4, y5, y6] M' _
    walk_at "s"
    walk_at "gt"
    refine ⟨by decide, fun u2 h2 => ?_⟩
    generalize e2 : updM _ u2 _ = M2
    have t2 := (Nx.of (M := M')).gen h2 e2
    show SSs _ G _ [some (bookT b sh bl), some (.ptr u), some (.ptr D), some (blkT B), some (.ptr u2), y3, y4, y5, y6] M2 _
    refine sb_cons ?_
    refine dx_for d (fun _ => rfl) ?_
    refine si_tup ?_
    walk_at "gt"
    refine ⟨_, rfl, ?_⟩
    refine ⟨fun i2 v' M3 => i2 ≤ B.length ∧ ∃ (y3 y4 y5 y6 : Option S) (us : List Addr), v' = [some (.tup [.int b, .tup (sh.map S.int), .tup (bl.map blkT)]), some (.ptr u), some (.ptr D), some (blkT B), some (.ptr u2), y3, y4, y5, y6] ∧ us.length = (expd tt n (B.take i2)).length ∧ Nx M' (tabU u2 us (expd tt n (B.take i2))) M3, ⟨Nat.zero_le _, _, _, _, _, [], rfl, rfl, t2⟩, fun _ _ _ _ => True.intro, ?_, ?_⟩
    · rintro i2 s v' M3 es2 ⟨hi2, z3, z4, z5, z6, us, rfl, hus, t3⟩
      rw [List.getElem?_map] at es2
      obtain ⟨line, hL, rfl⟩ := Option.map_eq_some_iff.mp es2
      have hlt2 : i2 < B.length := (List.getElem?_eq_some_iff.mp hL).1
      obtain ⟨hL1, hL2⟩ := hB2 line (List.mem_of_getElem? hL)
      have tl := sq.len
      have hrow : rowT line = .tup (line.map S.int) := rfl
      obtain ⟨ws, w1, _, w3, w4⟩ := ht.sub (sx.sub.trans t3.sub)
      have w0 : 0 < ws.length := by omega
      obtain ⟨rs0, r01, _, m0, _⟩ := w4 0 ws[0] tt[0] (List.getElem?_eq_getElem w0) (List.getElem?_eq_getElem (by omega))
      have rn : rs0.length = n := by rw [r01]; exact (sq.rows _ (List.getElem_mem (by omega))).1
      generalize hR : expd tt n (B.take i2) = RR at hus t3
      refine dx_tgt d 5 l5 ?_
      show SSs _ G _ [some (bookT b sh bl), some (.ptr u), some (.ptr D), some (blkT B), some (.ptr u2), some (rowT line), z4, z5, z6] M3 _
      refine sb_one ?_
      refine dx_for d (fun _ => rfl) ?_
      refine si_range1 (gl_of dn g_range) t_range ?_
      walk_at "gt"
      refine rx_lst w3 (at_in (by omega) (by show (ws.map S.ptr)[0]? = _; rw [List.getElem?_map, List.getElem?_eq_getElem w0]; rfl)) ?_
      walk_at "gt"
      refine rb_len (its_lst m0) ?_
      rw [List.length_map, rn]
      refine ⟨_, rfl, by omega, by omega, ?_⟩
      rw [Int.toNat_natCast]
      refine ⟨fun i3 v' M4 => i3 ≤ n ∧ ∃ (y4 y5 y6 : Option S) (us : List Addr), v' = [some (.tup [.int b, .tup (sh.map S.int), .tup (bl.map blkT)]), some (.ptr u), some (.ptr D), some (blkT B), some (.ptr u2), some (rowT line), y4, y5, y6] ∧ us.length = (RR ++ (List.range i3).map (rowAt tt line)).length ∧ Nx M' (tabU u2 us (RR ++ (List.range i3).map (rowAt tt line))) M4, ⟨Nat.zero_le _, _, _, _, us, rfl, by rw [hus]; simp, by simpa using t3⟩, fun _ _ _ _ => True.intro, ?_, ?_⟩
      · rintro i3 s v' M4 es3 ⟨hi3, y4, y5, y6, us, rfl, hus, t4⟩
        obtain ⟨hlt3, rfl⟩ := rgS_get es3
        generalize hR2 : RR ++ (List.range i3).map (rowAt tt line) = R2 at hus t4
        refine dx_tgt d 6 l6 ?_
        show SSs _ G _ [some (bookT b sh bl), some (.ptr u), some (.ptr D), some (blkT B), some (.ptr u2), some (rowT line), some (.int (0 + i3)), y5, y6] M4 _
        walk_at "s"
        walk_at "gt"
        refine ⟨by decide, fun u3 h3 => ?_⟩
        generalize e3 : updM _ u3 _ = M5
        have t5 := t4.gen h3 e3
        show SSs _ G _ [some (bookT b sh bl), some (.ptr u), some (.ptr D), some (blkT B), some (.ptr u2), some (rowT line), some (.int (0 + i3)), some (.ptr u3), y6] M5 _
        refine sb_cons ?_
        refine dx_for d (fun _ => rfl) ?_
        refine si_tup ?_
        walk_at "gt"
        refine ⟨_, hrow, ?_⟩
        refine ⟨fun i4 v' M6 => i4 ≤ line.length ∧ ∃ (y6 : Option S) (r : Addr), v' = [some (.tup [.int b, .tup (sh.map S.int), .tup (bl.map blkT)]), some (.ptr u), some (.ptr D), some (blkT B), some (.ptr u2), some (rowT line), some (.int (0 + i3)), some (.ptr r), y6] ∧ Nx M' ((r, .lst (((line.take i4).flatMap (pickI tt i3)).map S.int)) :: tabU u2 us R2) M6, ⟨Nat.zero_le _, _, u3, rfl, t5⟩, fun _ _ _ _ => True.intro, ?_, ?_⟩
        · rintro i4 s v' M6 es4 ⟨hi4, y6, r, rfl, t6⟩
          rw [List.getElem?_map] at es4
          obtain ⟨x, hx, rfl⟩ := Option.map_eq_some_iff.mp es4
          have hlt4 : i4 < line.length := (List.getElem?_eq_some_iff.mp hx).1
          obtain ⟨x0, x1⟩ := hL2 x (List.mem_of_getElem? hx)
          obtain ⟨rows, r0, f1, f2, f3, f4, f5⟩ := sq.at x0 x1 hlt3
          obtain ⟨ws, w1, _, w3, w4⟩ := ht.sub (sx.sub.trans t6.sub)
          have wx : x.toNat < ws.length := by omega
          obtain ⟨rs, r1, _, r3, r4⟩ := w4 x.toNat ws[x.toNat] rows (List.getElem?_eq_getElem wx) f1
          have rx : i3 < rs.length := by omega
          obtain ⟨_, r6⟩ := r4 i3 rs[i3] r0 (List.getElem?_eq_getElem rx) f2
          have fl : ((line.take i4).flatMap (pickI tt i3)).length = i4 * n := by
            rw [flat_len fun y hy => (by
              obtain ⟨_, _, _, _, e, e2, _⟩ := sq.at (hL2 y (List.mem_of_mem_take hy)).1 (hL2 y (List.mem_of_mem_take hy)).2 hlt3
              rw [e]; exact e2), List.length_take, Nat.min_eq_left hi4]
          have fb : i4 * n ≤ 4 * 100 := Nat.mul_le_mul (by omega) hn
          refine dx_tgt d 8 l8 ?_
          show SSs _ G _ [some (bookT b sh bl), some (.ptr u), some (.ptr D), some (blkT B), some (.ptr u2), some (rowT line), some (.int (0 + i3)), some (.ptr r), some (.int x)] M6 _
          refine sb_one ?_
          walk_at "gt"
          refine rx_lst w3 (at_in x0 (by rw [List.getElem?_map, List.getElem?_eq_getElem wx]; rfl)) ?_
          walk_at "gt"
          refine rx_lst r3 (at_in (by omega) (by rw [show (0 + (i3 : Int)).toNat = i3 by omega, List.getElem?_map, List.getElem?_eq_getElem rx]; rfl)) ?_
          walk_at "gt"
          refine ro_catL (t6.at 0 rfl) r6 (by rw [List.length_map, List.length_map, fl]; omega) fun t ht => ?_
          have t7 := (t6.new ht (o := .lst (((line.take i4).flatMap (pickI tt i3)).map S.int ++ r0.map S.int))).sl (List.Sublist.cons₂ _ (List.Sublist.cons _ (List.Sublist.refl _)))
          refine ⟨hlt4, _, t, rfl, ?_⟩
          have e5 : (line.take (i4 + 1)).flatMap (pickI tt i3) = (line.take i4).flatMap (pickI tt i3) ++ r0 := by
            rw [List.take_add_one, hx, List.flatMap_append]
            simp [f3]
          rw [e5, List.map_append]
          exact t7
        · rintro v' M6 ⟨hi4, y6, r, rfl, t6⟩
          rw [List.length_map, List.take_length] at t6
          walk_at "s"
          walk_at "ss"
          refine se_append ?_
          walk_at "gt"
          refine ⟨u2, rfl, ⟨_, t6.at 1 rfl⟩, ?_⟩
          walk_at "gt"
          have ul : us.length ≤ 1000 := by
            have z : (expd tt n (B.take i2)).length = (B.take i2).length * n := flat_len fun _ _ => by simp
            have z2 := Nat.mul_le_mul (show i2 ≤ 4 by omega) hn
            rw [hus, ← hR2, List.length_append, List.length_map, List.length_range, ← hR, z, List.length_take, Nat.min_eq_left hi2]
            omega
          refine ⟨_, t6.at 1 rfl, by rw [List.length_map]; omega, ?_⟩
          have e4 : us.map S.ptr ++ [S.ptr r] = (us ++ [r]).map S.ptr := by rw [List.map_append]; rfl
          rw [e4]
          have t8 := t6.set 1 rfl (o' := .lst ((us ++ [r]).map S.ptr))
          have e5 : RR ++ (List.range (i3 + 1)).map (rowAt tt line) = R2 ++ [rowAt tt line i3] := by rw [← hR2, List.range_succ, List.map_append, List.append_assoc]; rfl
          refine ⟨by omega, _, _, _, us ++ [r], rfl, by rw [e5, List.length_append, List.length_append, hus]; rfl, ?_⟩
          rw [e5]
          unfold tabU
          rw [tabC_snoc hus]
          refine t8.perm ?_
          exact (List.Perm.swap _ _ _).trans (List.Perm.cons _ (List.perm_append_singleton _ _).symm)
      · rintro v' M4 ⟨hi3, y4, y5, y6, us, rfl, hus, t4⟩
        rw [rgS_len] at hus t4
        have e5 : expd tt n (B.take (i2 + 1)) = RR ++ (List.range n).map (rowAt tt line) := by
          rw [← hR]
          unfold expd
          rw [List.take_add_one, hL, List.flatMap_append]
          simp
        rw [← e5] at hus t4
        exact ⟨by omega, _, _, _, _, us, rfl, hus, t4⟩
    · rintro v' M3 ⟨hi2, z3, z4, z5, z6, us, rfl, hus, t3⟩
      rw [List.length_map, List.take_length] at hus t3
      have mD := t3.sub _ _ (sx.at 0 rfl)
      refine sb_one ?_
      walk_at "ss"
      refine se_append ?_
      walk_at "gt"
      refine ⟨D, rfl, ⟨_, mD⟩, ?_⟩
      walk_at "gt"
      refine ⟨_, mD, by rw [List.length_map]; omega, ?_⟩
      have e4 : vs.map S.ptr ++ [S.ptr u2] = (vs ++ [u2]).map S.ptr := by rw [List.map_append]; rfl
      rw [e4]
      refine ⟨by omega, _, _, _, _, _, _, vs ++ [u2], rfl, by rw [List.length_append, hvl]; rfl, (sx.up t3.sub).set 0 rfl, fun i' v B' h1 h7 => ?_⟩
      have ne : ∀ a, M' a = none → a ≠ D := fun a ha e => by rw [e, sx.at 0 rfl] at ha; cases ha
      rcases vs_snoc hvl h1 with ⟨h3, h4⟩ | ⟨rfl, rfl⟩
      · refine (hv i' v B' h4 h7).frame (fun a o ha z => ?_) fun _ z => z
        rw [updM_ne ha.2]
        exact t3.sub _ _ z
      · rw [hB] at h7
        cases h7
        refine (T2.nx hus t3).frame (fun a o ha z => ?_) fun a ha => ⟨sx.sub.free ha, ne a ha⟩
        rw [updM_ne (ne a ha)]
        exact z
  · rintro v' M' ⟨hi, y1, y2, y3, y4, y5, y6, vs, rfl, hvl, sx, hv⟩
    rw [List.length_map] at hvl
    walk_at "go"
    refine ⟨_, Sub.refl, q D M' sx.sub ⟨vs, by rw [List.length_map]; exact hvl, hD, sx.at 0 rfl, fun i v rows h1 h2 => ?_⟩⟩
    rw [List.getElem?_map] at h2
    obtain ⟨B, hB, rfl⟩ := Option.map_eq_some_iff.mp h2
    exact (hv i v B h1 hB).frame (fun _ _ _ z => z) fun _ z => z.1
end

end Sy

set_option Elab.async false
set_option linter.all false
set_option maxRecDepth 100000
set_option maxHeartbeats 1000000
namespace Sy
open PySem PySem.Spec PyProof.Rows L2
local macro_rules | `(tactic| walk_at "nm") => `(tactic| ((with_reducible refine' dn_name ?d _ ?h ?he ?q); (case d => assumption); (case h => with_reducible assumption); (case he => rfl)))
local macro_rules | `(tactic| walk_at "cn") => `(tactic| first | with_reducible refine se_int ?_ | with_reducible refine se_bl ?_ | with_reducible refine se_non ?_ | with_reducible refine se_str ?_)
local macro_rules | `(tactic| walk_at "ct") => `(tactic| ((with_reducible refine' dn_callT ?d ?m ?v ?g ?n ?db ?st ?pl ?q); (case d => assumption); (case m => with_reducible assumption); (case v => first | with_reducible exact bt_int | with_reducible exact bt_tuple | with_reducible exact bt_list | with_reducible exact bt_str | with_reducible exact bt_bool); (case g => with_reducible assumption); (case n => decide); (case db => decide); (case st => rfl); (case pl => rfl)))
local macro_rules | `(tactic| walk_at "cb") => `(tactic| ((with_reducible refine' dn_callB ?d ?m ?v ?g ?n ?db ?st ?pl ?q); (case d => assumption); (case m => with_reducible assumption); (case v => first | with_reducible exact bf_len | with_reducible exact bf_isinstance | with_reducible exact bf_all | with_reducible exact bf_max | with_reducible exact bf_min | with_reducible exact bf_abs | with_reducible exact bf_sum | with_reducible exact bf_any | with_reducible exact bf_repr); (case g => with_reducible assumption); (case n => decide); (case db => decide); (case st => rfl); (case pl => rfl)))
local macro_rules | `(tactic| walk_at "cf") => `(tactic| ((with_reducible refine' dn_call ?d ?F ?g ?k ?db ?st ?pl ?q); (case d => assumption); (case F => with_reducible assumption); (case g => with_reducible assumption); (case k => decide); (case db => decide); (case st => rfl); (case pl => rfl)))
local macro_rules | `(tactic| walk_at "tv") => `(tactic| ((with_reducible refine' dn_ty ?d ?m ?v ?g ?n ?db ?q); (case d => assumption); (case m => with_reducible assumption); (case v => first | with_reducible exact bt_int | with_reducible exact bt_tuple | with_reducible exact bt_list | with_reducible exact bt_str | with_reducible exact bt_bool); (case g => with_reducible assumption); (case n => decide); (case db => decide)))
local macro_rules | `(tactic| walk_at "ck") => `(tactic| ((with_reducible refine' dn_kw ?d ?F ?g ?k ?db ?a ?ks ?pl ?q); (case d => assumption); (case F => with_reducible assumption); (case g => with_reducible assumption); (case k => decide); (case db => decide); (case a => rfl); (case ks => rfl); (case pl => rfl)))
local macro_rules | `(tactic| walk_at "e") => `(tactic| first | walk_at "nm" | walk_at "cn" | with_reducible refine se_bin ?_ | ((with_reducible refine' se_cmp ?q ?st); (case st => first | exact nomark _ | rfl)) | ((with_reducible refine' se_ix ?q ?st); (case st => exact fun _ _ => rfl)) | with_reducible refine sa_nil ?_ | ((with_reducible refine' sa_cons ?q ?st); (case st => rfl)) | walk_at "cf" | walk_at "ck" | with_reducible refine sk_nil ?_ | with_reducible refine sk_cons ?_ | walk_at "cb" | walk_at "ct" | walk_at "tv" | with_reducible refine se_one ?_ | ((with_reducible refine' se_chain ?q ?st); (case st => with_unfolding_all rfl)) | with_reducible refine se_tup ?_ | with_reducible refine se_lst ?_ | with_reducible refine se_and ?_ | with_reducible refine se_or ?_ | with_reducible refine se_not ?_ | with_reducible refine se_un ?_ )
local macro_rules | `(tactic| walk_at "v") => `(tactic| first | with_reducible refine ro_addI ?_ | with_reducible refine rc_isIB ?_ | with_reducible refine rc_eqB ?_ | with_reducible refine rc_neB ?_ | with_reducible refine rc_isN ?_ | with_reducible refine rc_notN ?_ | with_reducible refine ro_subI ?_ | with_reducible refine rc_eqI ?_ | with_reducible refine rc_neI ?_ | with_reducible refine rc_ltI ?_ | with_reducible refine rc_leI ?_ | with_reducible refine rc_gtI ?_ | with_reducible refine rc_geI ?_ | with_reducible refine rb_intI ?_ | with_reducible refine ru_neg ?_ | with_reducible refine rb_tupleT ?_ | ((with_reducible refine rb_isInt ?h ?q); (case h => assumption)) | ((with_reducible refine rb_isBool ?h ?q); (case h => assumption)) | ((with_reducible refine rb_isTup ?h ?q); (case h => assumption)) | with_reducible refine rb_len its_tup ?_ | (refine rx_tup (by rfl) ?_) | ((with_reducible refine' rx_lst ?h ?a ?q); (case h => with_reducible assumption); (case a => rfl)))
local macro_rules | `(tactic| walk_at "ss") => `(tactic| first | with_reducible refine ss_ret (se_fg ?_) | with_reducible refine ss_if ?_ | ((with_reducible refine' ss_expr ?q ?st); (case st => rfl)) | ((with_reducible refine' dx_set ?d _ ?h ?hs ?q); (case d => assumption); (case h => with_reducible assumption); (case hs => rfl)) | ((with_reducible refine' ss_asg (tg := .Tuple _ _ _) ?q ?hs ?hw ?h1); (case hs => rfl); (case hw => rfl); (case h1 => rfl)))
local macro_rules | `(tactic| walk_at "s") => `(tactic| first | with_reducible refine sb_one ?_ | with_reducible refine sb_cons ?_ | walk_at "ss")
local macro_rules | `(tactic| walk_at "t") => `(tactic| first | with_reducible refine st_not ?_ | ((with_reducible refine' st_cmp ?q ?st); (case st => first | exact nomark _ | rfl)) | with_reducible refine sw_and1 ?_ | with_reducible refine sw_or1 ?_ | with_reducible refine sw_or ?_ | with_reducible refine sw_and ?_ | ((with_reducible refine' st_chain ?q ?st); (case st => with_unfolding_all rfl)) | (refine st_of ?_; first | with_reducible refine sw_or ?_ | with_reducible refine sw_and ?_) | ((with_reducible refine' st_val ?q ?st); (case st => intro _; rfl)))
local macro_rules | `(tactic| walk_at "go") => `(tactic| repeat (first | walk_at "e" | walk_at "v" | walk_at "s" | walk_at "t"))
local macro_rules | `(tactic| walk_at "gt") => `(tactic| repeat (first | walk_at "e" | walk_at "v" | walk_at "ss" | walk_at "t"))
local macro_rules | `(tactic| walk_at "gx") => `(tactic| repeat (first | walk_at "e" | walk_at "v" | walk_at "ss" | walk_at "t" | refine ⟨by simp only [List.length_cons, List.length_nil]; decide, ?_⟩))
local macro_rules | `(tactic| walk_at "tg") => `(tactic| repeat (first | ((with_reducible refine' sg_tup ?q ?hc ?hn ?st); (case hc => exact DX.calm (by assumption)); (case hn => rfl); (case st => rfl)) | (refine sgs_cons ?_) | with_reducible refine sgs_nil ?_ | ((refine dx_tgt (by assumption) _ (by with_reducible assumption) ?_))))
def shadeI (sh : List Int) (x : Int) : Int := sh[x.toNat]?.getD 0
theorem shade_at_in {b : Int} {sh : List Int} {bl : List Blk} {x : Int} (h0 : 0 ≤ x) (h1 : x < sh.length) : atI (sh.map S.int) x = some (.int (shadeI sh x)) := by
  have hx : x.toNat < sh.length := by omega
  refine at_in h0 ?_
  unfold shadeI
  rw [List.getElem?_map, List.getElem?_eq_getElem hx]
  rfl
def unfR (b l : Int) (bl : List Blk) : Nat → List (List Int)
  | 0 => [[l]]
  | e + 1 => expd bl b.toNat (unfR b l bl e)
def shR (b : Int) (sh : List Int) (bl : List Blk) (l : Int) (e : Nat) : List (List Int) := (unfR b l bl e).map fun r => r.map (shadeI sh)
/-- n rows of n letters -/
structure Wf (rows : List (List Int)) (L n : Nat) : Prop where
  len : rows.length = n
  rows : ∀ r, r ∈ rows → r.length = n ∧ ∀ x, x ∈ r → 0 ≤ x ∧ x < (L : Int)
theorem okSq {b : Int} {sh : List Int} {bl : List Blk} (ok : BookOk b sh bl) : Sq bl sh.length b.toNat := ⟨ok.lb, fun x hx => by
  obtain ⟨h1, h2⟩ := ok.hb x hx
  exact ⟨by omega, fun r hr => by have := (h2 r hr).1; omega⟩⟩
theorem pick_in {b : Int} {sh : List Int} {bl : List Blk} (ok : BookOk b sh bl) {y : Int} (h0 : 0 ≤ y) (h1 : y < sh.length) {k : Nat} (hk : k < b.toNat) : ∀ x, x ∈ pickI bl k y → 0 ≤ x ∧ x < (sh.length : Int) := by
  obtain ⟨rows, r, e1, e2, e3, _, _⟩ := (okSq ok).at h0 h1 hk
  rw [e3]
  exact ((ok.hb rows (List.mem_of_getElem? e1)).2 r (List.mem_of_getElem? e2)).2
theorem Wf.expd {b : Int} {sh : List Int} {bl : List Blk} {rows : List (List Int)} {n : Nat} (ok : BookOk b sh bl) (h : Wf rows sh.length n) : Wf (expd bl b.toNat rows) sh.length (n * b.toNat) := by
  refine ⟨?_, fun r hr => ?_⟩
  · rw [← h.len]
    exact flat_len fun _ _ => by simp
  · obtain ⟨line, hl, hr⟩ := List.mem_flatMap.mp hr
    obtain ⟨k, hk, rfl⟩ := List.mem_map.mp hr
    have hk := List.mem_range.mp hk
    obtain ⟨h1, h2⟩ := h.rows line hl
    refine ⟨by rw [(okSq ok).row h2 hk, h1], fun x hx => ?_⟩
    obtain ⟨y, hy, hx⟩ := List.mem_flatMap.mp hx
    exact pick_in ok (h2 y hy).1 (h2 y hy).2 hk x hx
theorem unfR_wf {b : Int} {sh : List Int} {bl : List Blk} {l : Int} (ok : PicOk b sh bl l) : ∀ e : Nat, Wf (unfR b l bl e) sh.length (b.toNat ^ e)
  | 0 => ⟨rfl, fun r hr => by
    rw [List.mem_singleton.mp hr]
    exact ⟨rfl, fun x hx => by rw [List.mem_singleton.mp hx]; exact ⟨ok.l0, ok.l1⟩⟩⟩
  | e + 1 => by
    rw [Nat.pow_succ]
    exact (unfR_wf ok e).expd ok.ok
theorem shR_sq {b : Int} {sh : List Int} {bl : List Blk} {l : Int} (ok : PicOk b sh bl l) (e : Nat) : (shR b sh bl l e).length = b.toNat ^ e ∧ ∀ r, r ∈ shR b sh bl l e → r.length = b.toNat ^ e := by
  have w := unfR_wf ok e
  refine ⟨by unfold shR; rw [List.length_map, w.len], fun r hr => ?_⟩
  obtain ⟨r0, h0, rfl⟩ := List.mem_map.mp hr
  rw [List.length_map]
  exact (w.rows r0 h0).1
theorem get_all (r : List Int) : (List.range r.length).map (fun i => S.int (r[i]?.getD 0)) = r.map S.int := by
  apply List.ext_getElem?
  intro i
  rw [List.getElem?_map, List.getElem?_map]
  by_cases h : i < r.length
  · rw [List.getElem?_range h, List.getElem?_eq_getElem h]
    simp [h]
  · rw [List.getElem?_eq_none (by simpa using h), List.getElem?_eq_none (by omega)]
    rfl
def C_unfolded : Con := fun ss M Q _ => ∃ b sh bl u rows n, ss = [.tup (bl.map blkT), .ptr u] ∧ BookOk b sh bl ∧ Wf rows sh.length n ∧ n ≤ 100 ∧ T2 (fun _ => True) M u rows ∧ ∀ v us M', us.length = (expd bl b.toNat rows).length → Nx M (tabU v us (expd bl b.toNat rows)) M' → Q (.ptr v) M'
def C_shade_rows : Con := fun ss M Q _ => ∃ b sh bl l, ∃ e : Nat, ss = [picT b sh bl l, .int e] ∧ PicOk b sh bl l ∧ e ≤ 1000 ∧ b.toNat ^ e ≤ 100 ∧ ∀ v us M', us.length = (shR b sh bl l e).length → Nx M (tabU v us (shR b sh bl l e)) M' → Q (.ptr v) M'
def C_sheet (cI cD : Addr) : Con := fun ss M Q E => ∃ s, ∃ e : Int, ss = [s, .int e] ∧ Kn M s ∧ ((∃ b sh bl l, s = picT b sh bl l ∧ PicOk b sh bl l ∧ (e < 0 → E cD (.int e) M) ∧ (0 ≤ e → e ≤ 1000 ∧ b.toNat ^ e.toNat ≤ 100 ∧ ∀ v us M', us.length = (shR b sh bl l e.toNat).length → Nx M (tabU v us (shR b sh bl l e.toNat)) M' → Q (.ptr v) M')) ∨
  (isPic s = false ∧ ∃ n d A0, n ≤ 6 ∧ Da M A0 n s d ∧ ∀ s' M' A, Sub M M' → (∀ p, A p → M p = none) → Da M' A n s' d → E cI s' M'))
section
variable {P : Program} {w : World} {K : PySem.W.Frag} {mg : Str → Option Value} {base : Heap} {cI cD fI fD : Addr}
theorem sc_unfolded : FnScope ["blocks", "rows", "found", "row", "line", "letter", "inner"] ["blocks", "rows"] (defScope s_unfolded) := ⟨rfl, rfl, rfl, by decide +kernel, rfl, by decide +kernel, by decide +kernel⟩
theorem ok_unfolded {f : Addr} {fd : FuncData} (F : Fun K "unfolded" "unfolded" s_unfolded f fd) (T : Txt mg) : FnOk P w K mg base (L2.CX P w) 1 f fd ["blocks", "rows"] (SpC K C_unfolded) := by
  refine def_ok F sc_unfolded (fun ss M Q E h => ?_) (fun X G eP ew eK em eb d ss M Q E h wi => ?_)
  · obtain ⟨b, sh, bl, u, rows, n, rfl, ok, wf, hn, ht, q⟩ := h; rfl
  subst eP ew eK em eb
  have dn := d.dn
  have n0 : nmB ["blocks", "rows", "found", "row", "line", "letter", "inner"] (defScope s_unfolded) 0 "blocks" = true := by decide +kernel
  have n1 : nmB ["blocks", "rows", "found", "row", "line", "letter", "inner"] (defScope s_unfolded) 1 "rows" = true := by decide +kernel
  have n2 : nmB ["blocks", "rows", "found", "row", "line", "letter", "inner"] (defScope s_unfolded) 2 "found" = true := by decide +kernel
  have n3 : nmB ["blocks", "rows", "found", "row", "line", "letter", "inner"] (defScope s_unfolded) 3 "row" = true := by decide +kernel
  have l2 : lcB ["blocks", "rows", "found", "row", "line", "letter", "inner"] (defScope s_unfolded) 2 "found" = true := by decide +kernel
  have l3 : lcB ["blocks", "rows", "found", "row", "line", "letter", "inner"] (defScope s_unfolded) 3 "row" = true := by decide +kernel
  have l4 : lcB ["blocks", "rows", "found", "row", "line", "letter", "inner"] (defScope s_unfolded) 4 "line" = true := by decide +kernel
  have g_range : glB (defScope s_unfolded) "range" = true := by decide +kernel
  have g_len : glB (defScope s_unfolded) "len" = true := by decide +kernel
  have t_len := T.len
  have t_range := T.range
  obtain ⟨b, sh, bl, u, rows, n, rfl, ok, wf, hn, ht, q⟩ := h
  conv => pattern (defBody _); whnf
  show SSs X G _ [some (.tup (bl.map blkT)), some (.ptr u), none, none, none, none, none] M _
  have hz : (sizeLine : Nat) = 16777216 := sizeLine_eq
  have e62 : (2 : Int) ^ 62 = 4611686018427387904 := by decide
  have b0 := ok.b0
  have b1 := ok.b1
  have l0' := ok.l0
  have l1' := ok.l1
  have lb := ok.lb
  have wl := wf.len
  obtain ⟨ws, hws, _, mu, hw⟩ := ht
  walk_at "s"
  walk_at "gt"
  refine ⟨by decide, fun D hD => ?_⟩
  generalize e1 : updM _ D _ = M1
  have s1 := (Nx.of (M := M)).gen hD e1
  show SSs _ G _ [some (.tup (bl.map blkT)), some (.ptr u), some (.ptr D), none, none, none, none] M1 _
  refine sb_cons ?_
  refine dx_for d (fun _ => rfl) ?_
  refine si_lst ?_
  walk_at "gt"
  refine ⟨u, _, rfl, s1.sub _ _ mu, ?_⟩
  refine ⟨fun i v' M' => i ≤ rows.length ∧ ∃ (y3 y4 y5 y6 : Option S) (us : List Addr), v' = [some (.tup (bl.map blkT)), some (.ptr u), some (.ptr D), y3, y4, y5, y6] ∧ us.length = (expd bl b.toNat (rows.take i)).length ∧ Nx M (tabU D us (expd bl b.toNat (rows.take i))) M', ⟨Nat.zero_le _, none, none, none, none, [], rfl, rfl, s1⟩, fun i v' M' hI => by obtain ⟨_, _, _, _, _, _, _, _, z⟩ := hI; exact z.sub _ _ mu, ?_, ?_⟩
  · rintro i s v' M' es ⟨hi, y3, y4, y5, y6, us, rfl, hus, sx⟩
    rw [List.getElem?_map] at es
    obtain ⟨a, ha, rfl⟩ := Option.map_eq_some_iff.mp es
    have hlt0 := (List.getElem?_eq_some_iff.mp ha).1
    have hlt : i < rows.length := by omega
    obtain ⟨_, ma⟩ := hw i a rows[i] ha (List.getElem?_eq_getElem hlt)
    obtain ⟨rl, rx⟩ := wf.rows _ (List.getElem_mem hlt)
    generalize hr : rows[i] = r at ma rl rx
    have hri : rows[i]? = some r := by rw [List.getElem?_eq_getElem hlt, hr]
    have rlen : (expd bl b.toNat (rows.take i)).length ≤ 400 := by
      have z : (expd bl b.toNat (rows.take i)).length = (rows.take i).length * b.toNat := flat_len fun _ _ => by simp
      have z2 := Nat.mul_le_mul (show i ≤ 100 by omega) (show b.toNat ≤ 4 by omega)
      rw [z, List.length_take, Nat.min_eq_left hi]
      omega
    generalize hR : expd bl b.toNat (rows.take i) = RR at hus sx rlen
    refine dx_tgt d 3 l3 ?_
    show SSs _ G _ [some (.tup (bl.map blkT)), some (.ptr u), some (.ptr D), some (.ptr a), y4, y5, y6] M' _
    refine sb_one ?_
    refine dx_for d (fun _ => rfl) ?_
    refine si_range1 (gl_of dn g_range) t_range ?_
    walk_at "gt"
    have hb0 : 0 < bl.length := by omega
    obtain ⟨B0, hB0⟩ : ∃ B0, bl[0]? = some B0 := ⟨_, List.getElem?_eq_getElem hb0⟩
    refine rx_tup (at_in (by omega) (by show (bl.map blkT)[0]? = _; rw [List.getElem?_map, hB0]; rfl)) ?_
    walk_at "gt"
    have hB0l := (ok.hb B0 (List.mem_of_getElem? hB0)).1
    rw [List.length_map]
    refine ⟨_, rfl, by omega, by omega, ?_⟩
    rw [hB0l]
    refine ⟨fun i2 v' M4 => i2 ≤ b.toNat ∧ ∃ (y4 y5 y6 : Option S) (us : List Addr), v' = [some (.tup (bl.map blkT)), some (.ptr u), some (.ptr D), some (.ptr a), y4, y5, y6] ∧ us.length = (RR ++ (List.range i2).map (rowAt bl r)).length ∧ Nx M (tabU D us (RR ++ (List.range i2).map (rowAt bl r))) M4, ⟨Nat.zero_le _, _, _, _, us, rfl, by rw [hus]; simp, by simpa using sx⟩, fun _ _ _ _ => True.intro, ?_, ?_⟩
    · rintro i2 s v' M4 es2 ⟨hi2, y4, y5, y6, us, rfl, hus, t4⟩
      obtain ⟨hlt2, rfl⟩ := rgS_get es2
      generalize hR2 : RR ++ (List.range i2).map (rowAt bl r) = R2 at hus t4
      have R2l : R2.length ≤ 1000 := by rw [← hR2, List.length_append, List.length_map, List.length_range]; omega
      refine dx_tgt d 4 l4 ?_
      show SSs _ G _ [some (.tup (bl.map blkT)), some (.ptr u), some (.ptr D), some (.ptr a), some (.int (0 + i2)), y5, y6] M4 _
      refine sb_one ?_
      walk_at "ss"
      refine se_append ?_
      walk_at "gt"
      refine ⟨D, rfl, ⟨_, t4.at 0 rfl⟩, ?_⟩
      refine dx_flat dn d.nd 5 6 (by decide +kernel) (by decide +kernel) (fun _ => rfl) (fun _ _ => rfl) (fun s => (pickI bl i2 (intOf s)).map S.int) ?_
      refine si_lst ?_
      walk_at "gt"
      have ma4 := t4.sub _ _ ma
      have efl : (r.map S.int).flatMap (fun s => (pickI bl i2 (intOf s)).map S.int) = (rowAt bl r i2).map S.int := by
        unfold rowAt
        rw [List.flatMap_map, List.map_flatMap]
        rfl
      have rowl := (okSq ok).row rx hlt2
      have z3 := Nat.mul_le_mul (show r.length ≤ 100 by omega) (show b.toNat ≤ 4 by omega)
      refine ⟨a, _, rfl, ma4, by rw [efl, List.length_map, rowl]; omega, fun M5 h5 => h5 _ _ ma4, fun j s M5 es hM s0 H0 C0 cl0 fp0 dn1 => ?_, fun F M5 hF t5 => ?_⟩
      · rw [List.getElem?_map] at es
        obtain ⟨x, hx, rfl⟩ := Option.map_eq_some_iff.mp es
        obtain ⟨x0, x1⟩ := rx x (List.mem_of_getElem? hx)
        obtain ⟨B, r0, f1, f2, f3, f4, f5⟩ := (okSq ok).at x0 x1 hlt2
        have m0 := nm_of dn1 0 "blocks" (by decide +kernel)
        have m4 := nm_of dn1 4 "line" (by decide +kernel)
        have m5 := nm_of dn1 5 "letter" (by decide +kernel)
        refine si_tup ?_
        walk_at "gt"
        refine rx_tup (at_in x0 (by rw [List.getElem?_map, f1]; rfl)) ?_
        walk_at "gt"
        refine rx_tup (at_in (by omega) (by rw [show (0 + (i2 : Int)).toNat = i2 by omega, List.getElem?_map, f2]; rfl)) ?_
        refine ⟨_, rfl, ?_, Sub.refl, fun _ _ => True.intro, fun n t M6 et h6 s1 H1 C1 cl1 fp1 dn2 => ?_⟩
        · show r0.map S.int = (pickI bl i2 x).map S.int
          rw [f3]
        · have m6 := nm_of dn2 6 "inner" (by decide +kernel)
          walk_at "gt"
          exact ⟨rfl, Sub.refl⟩
      · rw [efl] at t5
        have t6 := t4.call t5
        refine ⟨_, t6.at 1 rfl, by rw [List.length_map]; omega, ?_⟩
        have e4 : us.map S.ptr ++ [S.ptr F] = (us ++ [F]).map S.ptr := by rw [List.map_append]; rfl
        rw [e4]
        have t8 := t6.set 1 rfl (o' := .lst ((us ++ [F]).map S.ptr))
        have e5 : RR ++ (List.range (i2 + 1)).map (rowAt bl r) = R2 ++ [rowAt bl r i2] := by rw [← hR2, List.range_succ, List.map_append, List.append_assoc]; rfl
        refine ⟨by omega, _, _, _, us ++ [F], rfl, by rw [e5, List.length_append, List.length_append, hus]; rfl, ?_⟩
        rw [e5]
        unfold tabU
        rw [tabC_snoc hus]
        refine t8.perm ?_
        exact (List.Perm.swap _ _ _).trans (List.Perm.cons _ (List.perm_append_singleton _ _).symm)
    · rintro v' M4 ⟨hi2, y4, y5, y6, us, rfl, hus, t4⟩
      rw [rgS_len] at hus t4
      have e5 : expd bl b.toNat (rows.take (i + 1)) = RR ++ (List.range b.toNat).map (rowAt bl r) := by
        rw [← hR]
        unfold expd
        rw [List.take_add_one, hri, List.flatMap_append]
        simp
      rw [← e5] at hus t4
      exact ⟨by omega, _, _, _, _, us, rfl, hus, t4⟩
  · rintro v' M' ⟨hi, y3, y4, y5, y6, us, rfl, hus, sx⟩
    rw [List.length_map, hws, List.take_length] at hus sx
    walk_at "go"
    exact ⟨_, Sub.refl, q D us M' hus sx⟩
theorem sc_shade_rows : FnScope ["picture", "depth", "_", "shades", "blocks", "rows", "letter", "row"] ["picture", "depth"] (defScope s_shade_rows) := ⟨rfl, rfl, rfl, by decide +kernel, rfl, by decide +kernel, by decide +kernel⟩
theorem ok_shade_rows {f : Addr} {fd : FuncData} (F : Fun K "shade_rows" "shade_rows" s_shade_rows f fd) (T : Txt mg) (F_unfolded : Fn P w K mg base "unfolded" 1 C_unfolded) : FnOk P w K mg base (L2.CX P w) 2 f fd ["picture", "depth"] (SpC K C_shade_rows) := by
  refine def_ok F sc_shade_rows (fun ss M Q E h => ?_) (fun X G eP ew eK em eb d ss M Q E h wi => ?_)
  · obtain ⟨b, sh, bl, l, e, rfl, ok, he, hn, q⟩ := h; rfl
  subst eP ew eK em eb
  have dn := d.dn
  have n0 : nmB ["picture", "depth", "_", "shades", "blocks", "rows", "letter", "row"] (defScope s_shade_rows) 0 "picture" = true := by decide +kernel
  have n1 : nmB ["picture", "depth", "_", "shades", "blocks", "rows", "letter", "row"] (defScope s_shade_rows) 1 "depth" = true := by decide +kernel
  have n4 : nmB ["picture", "depth", "_", "shades", "blocks", "rows", "letter", "row"] (defScope s_shade_rows) 4 "blocks" = true := by decide +kernel
  have n5 : nmB ["picture", "depth", "_", "shades", "blocks", "rows", "letter", "row"] (defScope s_shade_rows) 5 "rows" = true := by decide +kernel
  have l2 : lcB ["picture", "depth", "_", "shades", "blocks", "rows", "letter", "row"] (defScope s_shade_rows) 2 "_" = true := by decide +kernel
  have l3 : lcB ["picture", "depth", "_", "shades", "blocks", "rows", "letter", "row"] (defScope s_shade_rows) 3 "shades" = true := by decide +kernel
  have l4 : lcB ["picture", "depth", "_", "shades", "blocks", "rows", "letter", "row"] (defScope s_shade_rows) 4 "blocks" = true := by decide +kernel
  have l5 : lcB ["picture", "depth", "_", "shades", "blocks", "rows", "letter", "row"] (defScope s_shade_rows) 5 "rows" = true := by decide +kernel
  have g_range : glB (defScope s_shade_rows) "range" = true := by decide +kernel
  have g_unfolded : glB (defScope s_shade_rows) "unfolded" = true := by decide +kernel
  have t_range := T.range
  obtain ⟨b, sh, bl, l, e, rfl, ok, he, hn, q⟩ := h
  conv => pattern (defBody _); whnf
  show SSs X G _ [some (picT b sh bl l), some (.int e), none, none, none, none, none, none] M _
  have hz : (sizeLine : Nat) = 16777216 := sizeLine_eq
  have e62 : (2 : Int) ^ 62 = 4611686018427387904 := by decide
  have b0 := ok.ok.b0
  have b1 := ok.ok.b1
  unfold picT bookT
  walk_at "s"
  walk_at "gt"
  walk_at "tg"
  show SSs _ G _ [some (picT b sh bl l), some (.int e), some (.int b), some (.tup (sh.map S.int)), some (.tup (bl.map blkT)), none, none, none] M _
  walk_at "s"
  walk_at "gx"
  intro p hp
  refine sa_nil ⟨by simp only [List.length_cons, List.length_nil]; omega, fun p2 hp2 => ?_⟩
  have z1 := (Nx.of (M := M)).new hp (o := .lst [.int l])
  have z2 := z1.new hp2 (o := .lst [.ptr p])
  generalize e2 : updM (updM M p _) p2 _ = M2 at z2
  show SSs _ G _ [some (picT b sh bl l), some (.int e), some (.int b), some (.tup (sh.map S.int)), some (.tup (bl.map blkT)), some (.ptr p2), none, none] M2 _
  refine sb_cons ?_
  refine dx_for d (fun _ => rfl) ?_
  refine si_range1 (gl_of dn g_range) t_range ?_
  walk_at "gt"
  refine ⟨_, rfl, by omega, by omega, ?_⟩
  rw [Int.toNat_natCast]
  refine ⟨fun i v' M' => i ≤ e ∧ ∃ (y2 : Option S) (v : Addr), v' = [some (.tup [.tup [.int b, .tup (sh.map S.int), .tup (bl.map blkT)], .int l]), some (.int e), y2, some (.tup (sh.map S.int)), some (.tup (bl.map blkT)), some (.ptr v), none, none] ∧ Sub M M' ∧ T2 (fun _ => True) M' v (unfR b l bl i), ⟨Nat.zero_le _, _, p2, rfl, z2.sub, ?_⟩, fun _ _ _ _ => True.intro, ?_, ?_⟩
  · refine ⟨[p], rfl, True.intro, z2.at 0 rfl, fun i a r h5 h6 => ?_⟩
    match i, h5, h6 with
    | 0, h5, h6 =>
      cases h5; cases h6
      exact ⟨True.intro, z2.at 1 rfl⟩
    | i + 1, h5, h6 => simp at h5
  · rintro i s v' M' es ⟨hi, y2, v, rfl, sm, ht⟩
    obtain ⟨hlt, rfl⟩ := rgS_get es
    refine dx_tgt d 2 l2 ?_
    show SSs _ G _ [some (picT b sh bl l), some (.int e), some (.int (0 + i)), some (.tup (sh.map S.int)), some (.tup (bl.map blkT)), some (.ptr v), none, none] M' _
    walk_at "go"
    refine ⟨b, sh, bl, v, _, _, rfl, ok.ok, unfR_wf ok i, Nat.le_trans (Nat.pow_le_pow_right (by omega) hi) hn, ht, fun v2 us2 M3 hl2 hx => ?_⟩
    exact ⟨hlt, _, v2, rfl, sm.trans hx.sub, (T2.nx hl2 hx).frame (fun _ _ _ z => z) fun _ _ => True.intro⟩
  · rintro v' M' ⟨hi, y2, v, rfl, sm, ht⟩
    rw [rgS_len] at ht
    have wf := unfR_wf ok e
    obtain ⟨ws, hws, _, mv, hw⟩ := ht
    generalize hU : unfR b l bl e = U at wf hws hw
    have hsh : shR b sh bl l e = U.map fun r => r.map (shadeI sh) := by rw [← hU]; rfl
    have ul := wf.len
    walk_at "s"
    walk_at "gt"
    refine dx_lcR dn d.nd 7 (by decide +kernel) (fun _ => rfl) ?_
    refine si_lst ?_
    walk_at "gt"
    refine ⟨v, _, rfl, mv, ?_⟩
    refine lc_tab (shR b sh bl l e) (by rw [hsh, List.length_map, List.length_map, hws]) (by rw [hsh, List.length_map]; omega) (fun M5 h5 => h5 _ _ mv) (fun j s r M5 es er hM s0 H0 C0 cl0 fp0 dn1 => ?_) fun D us M5 hus s5 => ?_
    · rw [List.getElem?_map] at es
      obtain ⟨a, ha, rfl⟩ := Option.map_eq_some_iff.mp es
      rw [hsh, List.getElem?_map] at er
      obtain ⟨r0, hr0, rfl⟩ := Option.map_eq_some_iff.mp er
      obtain ⟨_, ma⟩ := hw j a r0 ha hr0
      obtain ⟨rl, rx⟩ := wf.rows r0 (List.mem_of_getElem? hr0)
      have ma5 := hM _ _ ma
      have m7 := nm_of dn1 7 "row" (by decide +kernel)
      refine dx_lcR dn1 d.nd 6 (by decide +kernel) (fun _ => rfl) ?_
      refine si_lst ?_
      walk_at "gt"
      refine ⟨a, _, rfl, ma5, ?_⟩
      refine lc_mapI (fun i => .int ((r0.map (shadeI sh))[i]?.getD 0)) (by rw [List.length_map]; omega) (fun M6 h6 => h6 _ _ ma5) (fun i s M6 es hM s0 H0 C0 cl0 fp0 dn2 => ?_) fun D2 M6 hD2 s6 => ?_
      · rw [List.getElem?_map] at es
        obtain ⟨x, hx, rfl⟩ := Option.map_eq_some_iff.mp es
        obtain ⟨x0, x1⟩ := rx x (List.mem_of_getElem? hx)
        have m3 := nm_of dn2 3 "shades" (by decide +kernel)
        have m6 := nm_of dn2 6 "letter" (by decide +kernel)
        walk_at "gt"
        refine rx_tup (shade_at_in (b := b) (bl := bl) x0 x1) ⟨?_, Sub.refl⟩
        rw [List.getElem?_map, hx]
        rfl
      · refine ⟨D2, rfl, ?_⟩
        have e5 := get_all (r0.map (shadeI sh))
        rw [List.length_map] at e5
        rw [List.length_map, e5] at s6
        exact s6
    · refine ⟨M5, Sub.refl, q D us M5 hus ?_⟩
      have z := ((Nx.of (M := M)).up sm).call s5
      rw [List.append_nil] at z
      exact z
theorem sc_sheet : FnScope ["picture", "depth"] ["picture", "depth"] (defScope s_sheet) := ⟨rfl, rfl, rfl, by decide +kernel, rfl, by decide +kernel, by decide +kernel⟩
theorem ok_sheet {f : Addr} {fd : FuncData} (F : Fun K "sheet" "sheet" s_sheet f fd) (F_check_picture : Fn P w K mg base "check_picture" 8 (C_check_picture cI)) (F_check_depth : Fn P w K mg base "check_depth" 1 (C_check_depth cD)) (F_shade_rows : Fn P w K mg base "shade_rows" 2 C_shade_rows) : FnOk P w K mg base (L2.CX P w) 9 f fd ["picture", "depth"] (SpC K (C_sheet cI cD)) := by
  refine def_ok F sc_sheet (fun ss M Q E h => ?_) (fun X G eP ew eK em eb d ss M Q E h wi => ?_)
  · obtain ⟨s, e, rfl, hk, hq⟩ := h; rfl
  subst eP ew eK em eb
  have dn := d.dn
  have n0 : nmB ["picture", "depth"] (defScope s_sheet) 0 "picture" = true := by decide +kernel
  have n1 : nmB ["picture", "depth"] (defScope s_sheet) 1 "depth" = true := by decide +kernel
  have g_check_picture : glB (defScope s_sheet) "check_picture" = true := by decide +kernel
  have g_check_depth : glB (defScope s_sheet) "check_depth" = true := by decide +kernel
  have g_shade_rows : glB (defScope s_sheet) "shade_rows" = true := by decide +kernel
  obtain ⟨s, e, rfl, hk, hq⟩ := h
  conv => pattern (defBody _); whnf
  show SSs X G _ [some s, some (.int e)] M _
  walk_at "s"
  walk_at "ss"
  refine dn_callX dn wi F_check_picture g_check_picture (by decide) (by decide) rfl rfl ?_
  walk_at "go"
  refine ⟨s, rfl, hk, fun hp => ?_, fun hp => ?_⟩
  · rcases hq with ⟨b, sh, bl, l, rfl, ok, qD, q⟩ | ⟨hn, _⟩
    · walk_at "s"
      walk_at "ss"
      refine dn_callX dn wi F_check_depth g_check_depth (by decide) (by decide) rfl rfl ?_
      walk_at "go"
      refine ⟨e, rfl, fun h0 => ?_, fun h0 => qD h0⟩
      obtain ⟨e1, e2, q⟩ := q h0
      obtain ⟨e, rfl⟩ : ∃ e' : Nat, e = e' := ⟨e.toNat, by omega⟩
      rw [Int.toNat_natCast] at e2 q
      walk_at "go"
      exact ⟨b, sh, bl, l, e, rfl, ok, by omega, e2, fun v us M' hl hx => ⟨M', Sub.refl, q v us M' hl hx⟩⟩
    · rw [hn] at hp; cases hp
  · rcases hq with ⟨b, sh, bl, l, rfl, ok, _⟩ | ⟨_, n, dt, A0, hn, hd, q⟩
    · rw [isPic_ok ok] at hp; cases hp
    · exact ⟨n, dt, A0, hn, hd, q⟩
end

end Sy

set_option Elab.async false
set_option linter.all false
set_option maxRecDepth 100000
set_option maxHeartbeats 1000000
namespace Sy
open PySem PySem.Spec PyProof.Rows L2
local macro_rules | `(tactic| walk_at "nm") => `(tactic| ((with_reducible refine' dn_name ?d _ ?h ?he ?q); (case d => assumption); (case h => with_reducible assumption); (case he => rfl)))
local macro_rules | `(tactic| walk_at "cn") => `(tactic| first | with_reducible refine se_int ?_ | with_reducible refine se_bl ?_ | with_reducible refine se_non ?_ | with_reducible refine se_str ?_)
local macro_rules | `(tactic| walk_at "ct") => `(tactic| ((with_reducible refine' dn_callT ?d ?m ?v ?g ?n ?db ?st ?pl ?q); (case d => assumption); (case m => with_reducible assumption); (case v => first | with_reducible exact bt_int | with_reducible exact bt_tuple | with_reducible exact bt_list | with_reducible exact bt_str | with_reducible exact bt_bool); (case g => with_reducible assumption); (case n => decide); (case db => decide); (case st => rfl); (case pl => rfl)))
local macro_rules | `(tactic| walk_at "cb") => `(tactic| ((with_reducible refine' dn_callB ?d ?m ?v ?g ?n ?db ?st ?pl ?q); (case d => assumption); (case m => with_reducible assumption); (case v => first | with_reducible exact bf_len | with_reducible exact bf_isinstance | with_reducible exact bf_all | with_reducible exact bf_max | with_reducible exact bf_min | with_reducible exact bf_abs | with_reducible exact bf_sum | with_reducible exact bf_any | with_reducible exact bf_repr); (case g => with_reducible assumption); (case n => decide); (case db => decide); (case st => rfl); (case pl => rfl)))
local macro_rules | `(tactic| walk_at "cf") => `(tactic| ((with_reducible refine' dn_call ?d ?F ?g ?k ?db ?st ?pl ?q); (case d => assumption); (case F => with_reducible assumption); (case g => with_reducible assumption); (case k => decide); (case db => decide); (case st => rfl); (case pl => rfl)))
local macro_rules | `(tactic| walk_at "tv") => `(tactic| ((with_reducible refine' dn_ty ?d ?m ?v ?g ?n ?db ?q); (case d => assumption); (case m => with_reducible assumption); (case v => first | with_reducible exact bt_int | with_reducible exact bt_tuple | with_reducible exact bt_list | with_reducible exact bt_str | with_reducible exact bt_bool); (case g => with_reducible assumption); (case n => decide); (case db => decide)))
local macro_rules | `(tactic| walk_at "ck") => `(tactic| ((with_reducible refine' dn_kw ?d ?F ?g ?k ?db ?a ?ks ?pl ?q); (case d => assumption); (case F => with_reducible assumption); (case g => with_reducible assumption); (case k => decide); (case db => decide); (case a => rfl); (case ks => rfl); (case pl => rfl)))
local macro_rules | `(tactic| walk_at "e") => `(tactic| first | walk_at "nm" | walk_at "cn" | with_reducible refine se_bin ?_ | ((with_reducible refine' se_cmp ?q ?st); (case st => first | exact nomark _ | rfl)) | ((with_reducible refine' se_ix ?q ?st); (case st => exact fun _ _ => rfl)) | with_reducible refine sa_nil ?_ | ((with_reducible refine' sa_cons ?q ?st); (case st => rfl)) | walk_at "cf" | walk_at "ck" | with_reducible refine sk_nil ?_ | with_reducible refine sk_cons ?_ | walk_at "cb" | walk_at "ct" | walk_at "tv" | with_reducible refine se_one ?_ | ((with_reducible refine' se_chain ?q ?st); (case st => with_unfolding_all rfl)) | with_reducible refine se_tup ?_ | with_reducible refine se_lst ?_ | with_reducible refine se_and ?_ | with_reducible refine se_or ?_ | with_reducible refine se_not ?_ | with_reducible refine se_un ?_ )
local macro_rules | `(tactic| walk_at "v") => `(tactic| first | with_reducible refine ro_addI ?_ | with_reducible refine rc_isIB ?_ | with_reducible refine rc_eqB ?_ | with_reducible refine rc_neB ?_ | with_reducible refine rc_isN ?_ | with_reducible refine rc_notN ?_ | with_reducible refine ro_subI ?_ | with_reducible refine rc_eqI ?_ | with_reducible refine rc_neI ?_ | with_reducible refine rc_ltI ?_ | with_reducible refine rc_leI ?_ | with_reducible refine rc_gtI ?_ | with_reducible refine rc_geI ?_ | with_reducible refine rb_intI ?_ | with_reducible refine ru_neg ?_ | with_reducible refine rb_tupleT ?_ | ((with_reducible refine rb_isInt ?h ?q); (case h => assumption)) | ((with_reducible refine rb_isBool ?h ?q); (case h => assumption)) | ((with_reducible refine rb_isTup ?h ?q); (case h => assumption)) | with_reducible refine rb_len its_tup ?_ | (refine rx_tup (by rfl) ?_) | ((with_reducible refine' rx_lst ?h ?a ?q); (case h => with_reducible assumption); (case a => rfl)))
local macro_rules | `(tactic| walk_at "ss") => `(tactic| first | with_reducible refine ss_ret (se_fg ?_) | with_reducible refine ss_if ?_ | ((with_reducible refine' ss_expr ?q ?st); (case st => rfl)) | ((with_reducible refine' dx_set ?d _ ?h ?hs ?q); (case d => assumption); (case h => with_reducible assumption); (case hs => rfl)) | ((with_reducible refine' ss_asg (tg := .Tuple _ _ _) ?q ?hs ?hw ?h1); (case hs => rfl); (case hw => rfl); (case h1 => rfl)))
local macro_rules | `(tactic| walk_at "s") => `(tactic| first | with_reducible refine sb_one ?_ | with_reducible refine sb_cons ?_ | walk_at "ss")
local macro_rules | `(tactic| walk_at "t") => `(tactic| first | with_reducible refine st_not ?_ | ((with_reducible refine' st_cmp ?q ?st); (case st => first | exact nomark _ | rfl)) | with_reducible refine sw_and1 ?_ | with_reducible refine sw_or1 ?_ | with_reducible refine sw_or ?_ | with_reducible refine sw_and ?_ | ((with_reducible refine' st_chain ?q ?st); (case st => with_unfolding_all rfl)) | (refine st_of ?_; first | with_reducible refine sw_or ?_ | with_reducible refine sw_and ?_) | ((with_reducible refine' st_val ?q ?st); (case st => intro _; rfl)))
local macro_rules | `(tactic| walk_at "go") => `(tactic| repeat (first | walk_at "e" | walk_at "v" | walk_at "s" | walk_at "t"))
local macro_rules | `(tactic| walk_at "gt") => `(tactic| repeat (first | walk_at "e" | walk_at "v" | walk_at "ss" | walk_at "t"))
local macro_rules | `(tactic| walk_at "gx") => `(tactic| repeat (first | walk_at "e" | walk_at "v" | walk_at "ss" | walk_at "t" | refine ⟨by simp only [List.length_cons, List.length_nil]; decide, ?_⟩))
local macro_rules | `(tactic| walk_at "tg") => `(tactic| repeat (first | ((with_reducible refine' sg_tup ?q ?hc ?hn ?st); (case hc => exact DX.calm (by assumption)); (case hn => rfl); (case st => rfl)) | (refine sgs_cons ?_) | with_reducible refine sgs_nil ?_ | ((refine dx_tgt (by assumption) _ (by with_reducible assumption) ?_))))
theorem flat_get {α β : Type} {g : α → List β} {n : Nat} : ∀ {xs : List α} {i k : Nat}, (∀ x, x ∈ xs → (g x).length = n) → i < xs.length → k < n → (xs.flatMap g)[i * n + k]? = (xs[i]?.map g).bind fun r => r[k]?
  | [], i, k, _, hi, _ => by simp at hi
  | x :: xs, 0, k, h, _, hk => by
    rw [Nat.zero_mul, Nat.zero_add, List.flatMap_cons, List.getElem?_append_left (by rw [h x List.mem_cons_self]; exact hk)]
    rfl
  | x :: xs, i + 1, k, h, hi, hk => by
    have hx := h x List.mem_cons_self
    rw [List.flatMap_cons, List.getElem?_append_right (by rw [hx, Nat.succ_mul]; omega), hx, show (i + 1) * n + k - n = i * n + k by rw [Nat.succ_mul]; omega, flat_get (fun y hy => h y (List.mem_cons_of_mem _ hy)) (by simpa using hi) hk]
    rfl
theorem range_flat {α : Type} (h : Nat → α) (n : Nat) : ∀ m : Nat, (List.range (m * n)).map h = (List.range m).flatMap fun i => (List.range n).map fun k => h (i * n + k)
  | 0 => by simp
  | m + 1 => by
    rw [Nat.succ_mul, List.range_add, List.map_append, range_flat h n m, List.range_succ, List.flatMap_append, List.map_map]
    simp
theorem flat_congr {α β : Type} {f g : α → List β} : ∀ {xs : List α}, (∀ x, x ∈ xs → f x = g x) → xs.flatMap f = xs.flatMap g
  | [], _ => rfl
  | x :: xs, h => by rw [List.flatMap_cons, List.flatMap_cons, h x List.mem_cons_self, flat_congr fun y hy => h y (List.mem_cons_of_mem _ hy)]
theorem map_flat {α β : Type} (f : α → β) : ∀ xs : List α, xs.map f = xs.flatMap fun x => [f x]
  | [] => rfl
  | x :: xs => by rw [List.map_cons, List.flatMap_cons, map_flat f xs]; rfl
def lsh (b : Int) (sh : List Int) (bl : List Blk) : Nat → List (List (List Int))
  | 0 => sh.map fun x => [[x]]
  | e + 1 => bl.map (expd (lsh b sh bl e) (b.toNat ^ e))
theorem expd_sq {b : Int} {sh : List Int} {bl : List Blk} (ok : BookOk b sh bl) {s : List (List (List Int))} {n : Nat} (h : Sq s sh.length n) : Sq (bl.map (expd s n)) sh.length (b.toNat * n) := by
  have lb := ok.lb
  refine ⟨by rw [List.length_map]; exact lb, fun x hx => ?_⟩
  obtain ⟨B, hB, rfl⟩ := List.mem_map.mp hx
  obtain ⟨h1, h2⟩ := ok.hb B hB
  refine ⟨?_, fun r hr => ?_⟩
  · rw [show (expd s n B).length = B.length * n from flat_len fun _ _ => by simp, show B.length = b.toNat by omega]
  · obtain ⟨line, hl, hr⟩ := List.mem_flatMap.mp hr
    obtain ⟨k, hk, rfl⟩ := List.mem_map.mp hr
    obtain ⟨h3, h4⟩ := h2 line hl
    rw [h.row h4 (List.mem_range.mp hk), show line.length = b.toNat by omega]
theorem lsh_sq {b : Int} {sh : List Int} {bl : List Blk} (ok : BookOk b sh bl) : ∀ e : Nat, Sq (lsh b sh bl e) sh.length (b.toNat ^ e)
  | 0 => ⟨by unfold lsh; rw [List.length_map], fun x hx => by
    unfold lsh at hx
    obtain ⟨y, _, rfl⟩ := List.mem_map.mp hx
    exact ⟨rfl, fun r hr => by rw [List.mem_singleton.mp hr]; rfl⟩⟩
  | e + 1 => by
    rw [Nat.pow_succ, Nat.mul_comm]
    exact expd_sq ok (lsh_sq ok e)
/-- letters of the book -/
def LetG (G : List (List Int)) (L : Nat) : Prop := ∀ r, r ∈ G → ∀ x, x ∈ r → 0 ≤ x ∧ x < (L : Int)
theorem LetG.expd {b : Int} {sh : List Int} {bl : List Blk} (ok : BookOk b sh bl) {G : List (List Int)} (h : LetG G sh.length) : LetG (expd bl b.toNat G) sh.length := fun r hr x hx => by
  obtain ⟨line, hl, hr⟩ := List.mem_flatMap.mp hr
  obtain ⟨k, hk, rfl⟩ := List.mem_map.mp hr
  obtain ⟨y, hy, hx⟩ := List.mem_flatMap.mp hx
  exact pick_in ok (h line hl y hy).1 (h line hl y hy).2 (List.mem_range.mp hk) x hx
theorem expd_expd {b : Int} {sh : List Int} {bl : List Blk} (ok : BookOk b sh bl) {s : List (List (List Int))} {n : Nat} (h : Sq s sh.length n) {G : List (List Int)} (hG : LetG G sh.length) : expd (bl.map (expd s n)) (b.toNat * n) G = expd s n (expd bl b.toNat G) := by
  show G.flatMap _ = (G.flatMap _).flatMap _
  rw [List.flatMap_assoc]
  refine flat_congr fun line hl => ?_
  have hx := hG line hl
  rw [range_flat, List.flatMap_map]
  refine flat_congr fun i hi => ?_
  refine List.map_congr_left fun k hk => ?_
  show line.flatMap _ = (line.flatMap _).flatMap _
  rw [List.flatMap_assoc]
  refine flat_congr fun x hxl => ?_
  obtain ⟨x0, x1⟩ := hx x hxl
  obtain ⟨B, r0, f1, f2, f3, f4, f5⟩ := (okSq ok).at x0 x1 (List.mem_range.mp hi)
  have hBl := (ok.hb B (List.mem_of_getElem? f1)).1
  unfold pickI
  rw [List.getElem?_map, f1]
  show ((expd s n B)[i * n + k]?).getD [] = _
  have g : (expd s n B)[i * n + k]? = ((B[i]?).map fun line => (List.range n).map (rowAt s line)).bind fun r => r[k]? := flat_get (fun _ _ => by simp) (by have := List.mem_range.mp hi; omega) (List.mem_range.mp hk)
  rw [g, f2]
  show (((List.range n).map (rowAt s r0))[k]?).getD [] = _
  rw [List.getElem?_map, List.getElem?_range (List.mem_range.mp hk)]
  show rowAt s r0 k = (((some B).getD [])[i]?.getD []).flatMap _
  rw [Option.getD_some, f2, Option.getD_some]
  rfl
def itE (b : Int) (bl : List Blk) : Nat → List (List Int) → List (List Int)
  | 0, G => G
  | e + 1, G => itE b bl e (expd bl b.toNat G)
theorem lsh_it {b : Int} {sh : List Int} {bl : List Blk} (ok : BookOk b sh bl) : ∀ (e : Nat) (G : List (List Int)), LetG G sh.length → expd (lsh b sh bl e) (b.toNat ^ e) G = (itE b bl e G).map fun r => r.map (shadeI sh)
  | 0, G, hG => by
    show G.flatMap _ = G.map _
    rw [map_flat (fun r => r.map (shadeI sh)) G]
    refine flat_congr fun line hl => ?_
    show [rowAt _ line 0] = _
    have e1 : rowAt (lsh b sh bl 0) line 0 = line.map (shadeI sh) := by
      rw [map_flat (shadeI sh) line]
      refine flat_congr fun x hx => ?_
      obtain ⟨x0, x1⟩ := hG line hl x hx
      have hlt : x.toNat < sh.length := by omega
      unfold pickI lsh shadeI
      rw [List.getElem?_map, List.getElem?_eq_getElem hlt]
      rfl
    rw [e1]
  | e + 1, G, hG => by
    rw [Nat.pow_succ, Nat.mul_comm]
    show expd (bl.map (expd (lsh b sh bl e) (b.toNat ^ e))) _ G = _
    rw [expd_expd ok (lsh_sq ok e) hG, lsh_it ok e _ (hG.expd ok)]
    rfl
theorem it_comm {b : Int} {bl : List Blk} : ∀ (e : Nat) (G : List (List Int)), expd bl b.toNat (itE b bl e G) = itE b bl e (expd bl b.toNat G)
  | 0, _ => rfl
  | e + 1, G => it_comm e (expd bl b.toNat G)
theorem unf_it {b l : Int} {bl : List Blk} : ∀ e : Nat, unfR b l bl e = itE b bl e [[l]]
  | 0 => rfl
  | e + 1 => by
    show expd bl b.toNat (unfR b l bl e) = itE b bl e (expd bl b.toNat [[l]])
    rw [unf_it e, it_comm]
theorem lsh_at {b : Int} {sh : List Int} {bl : List Blk} {l : Int} (ok : PicOk b sh bl l) : ∀ e : Nat, (lsh b sh bl e)[l.toNat]? = some (shR b sh bl l e)
  | 0 => by
    have l0 := ok.l0
    have l1 := ok.l1
    have hlt : l.toNat < sh.length := by omega
    unfold lsh shR unfR shadeI
    rw [List.getElem?_map, List.getElem?_eq_getElem hlt]
    simp [hlt]
  | e + 1 => by
    have l0 := ok.l0
    have l1 := ok.l1
    have lb := ok.ok.lb
    have hlt : l.toNat < bl.length := by omega
    have hB : bl[l.toNat]? = some bl[l.toNat] := List.getElem?_eq_getElem hlt
    generalize bl[l.toNat] = B at hB
    obtain ⟨h1, h2⟩ := ok.ok.hb B (List.mem_of_getElem? hB)
    show (bl.map _)[l.toNat]? = _
    rw [List.getElem?_map, hB]
    show some (expd _ _ B) = _
    rw [lsh_it ok.ok e B fun r hr => (h2 r hr).2]
    unfold shR
    rw [unf_it]
    show _ = some ((itE b bl e (expd bl b.toNat [[l]])).map _)
    have e1 : expd bl b.toNat [[l]] = B := by
      show [[l]].flatMap _ = B
      rw [List.flatMap_cons, List.flatMap_nil, List.append_nil]
      apply List.ext_getElem?
      intro i
      by_cases hi : i < b.toNat
      · rw [List.getElem?_map, List.getElem?_range hi, List.getElem?_eq_getElem (show i < B.length by omega)]
        show some ([l].flatMap _) = _
        rw [List.flatMap_cons, List.flatMap_nil, List.append_nil]
        unfold pickI
        rw [hB, Option.getD_some, List.getElem?_eq_getElem (show i < B.length by omega), Option.getD_some]
      · rw [List.getElem?_eq_none (by simpa using hi), List.getElem?_eq_none (by omega)]
    rw [e1]

end Sy

set_option Elab.async false
set_option linter.all false
set_option maxRecDepth 100000
set_option maxHeartbeats 1000000
namespace Sy
open PySem PySem.Spec PyProof.Rows L2
local macro_rules | `(tactic| walk_at "nm") => `(tactic| ((with_reducible refine' dn_name ?d _ ?h ?he ?q); (case d => assumption); (case h => with_reducible assumption); (case he => rfl)))
local macro_rules | `(tactic| walk_at "cn") => `(tactic| first | with_reducible refine se_int ?_ | with_reducible refine se_bl ?_ | with_reducible refine se_non ?_ | with_reducible refine se_str ?_)
local macro_rules | `(tactic| walk_at "ct") => `(tactic| ((with_reducible refine' dn_callT ?d ?m ?v ?g ?n ?db ?st ?pl ?q); (case d => assumption); (case m => with_reducible assumption); (case v => first | with_reducible exact bt_int | with_reducible exact bt_tuple | with_reducible exact bt_list | with_reducible exact bt_str | with_reducible exact bt_bool); (case g => with_reducible assumption); (case n => decide); (case db => decide); (case st => rfl); (case pl => rfl)))
local macro_rules | `(tactic| walk_at "cb") => `(tactic| ((with_reducible refine' dn_callB ?d ?m ?v ?g ?n ?db ?st ?pl ?q); (case d => assumption); (case m => with_reducible assumption); (case v => first | with_reducible exact bf_len | with_reducible exact bf_isinstance | with_reducible exact bf_all | with_reducible exact bf_max | with_reducible exact bf_min | with_reducible exact bf_abs | with_reducible exact bf_sum | with_reducible exact bf_any | with_reducible exact bf_repr); (case g => with_reducible assumption); (case n => decide); (case db => decide); (case st => rfl); (case pl => rfl)))
local macro_rules | `(tactic| walk_at "cf") => `(tactic| ((with_reducible refine' dn_call ?d ?F ?g ?k ?db ?st ?pl ?q); (case d => assumption); (case F => with_reducible assumption); (case g => with_reducible assumption); (case k => decide); (case db => decide); (case st => rfl); (case pl => rfl)))
local macro_rules | `(tactic| walk_at "tv") => `(tactic| ((with_reducible refine' dn_ty ?d ?m ?v ?g ?n ?db ?q); (case d => assumption); (case m => with_reducible assumption); (case v => first | with_reducible exact bt_int | with_reducible exact bt_tuple | with_reducible exact bt_list | with_reducible exact bt_str | with_reducible exact bt_bool); (case g => with_reducible assumption); (case n => decide); (case db => decide)))
local macro_rules | `(tactic| walk_at "ck") => `(tactic| ((with_reducible refine' dn_kw ?d ?F ?g ?k ?db ?a ?ks ?pl ?q); (case d => assumption); (case F => with_reducible assumption); (case g => with_reducible assumption); (case k => decide); (case db => decide); (case a => rfl); (case ks => rfl); (case pl => rfl)))
local macro_rules | `(tactic| walk_at "e") => `(tactic| first | walk_at "nm" | walk_at "cn" | with_reducible refine se_bin ?_ | ((with_reducible refine' se_cmp ?q ?st); (case st => first | exact nomark _ | rfl)) | ((with_reducible refine' se_ix ?q ?st); (case st => exact fun _ _ => rfl)) | with_reducible refine sa_nil ?_ | ((with_reducible refine' sa_cons ?q ?st); (case st => rfl)) | walk_at "cf" | walk_at "ck" | with_reducible refine sk_nil ?_ | with_reducible refine sk_cons ?_ | walk_at "cb" | walk_at "ct" | walk_at "tv" | with_reducible refine se_one ?_ | ((with_reducible refine' se_chain ?q ?st); (case st => with_unfolding_all rfl)) | with_reducible refine se_tup ?_ | with_reducible refine se_lst ?_ | with_reducible refine se_and ?_ | with_reducible refine se_or ?_ | with_reducible refine se_not ?_ | with_reducible refine se_un ?_ )
local macro_rules | `(tactic| walk_at "v") => `(tactic| first | with_reducible refine ro_addI ?_ | with_reducible refine rc_isIB ?_ | with_reducible refine rc_eqB ?_ | with_reducible refine rc_neB ?_ | with_reducible refine rc_isN ?_ | with_reducible refine rc_notN ?_ | with_reducible refine ro_subI ?_ | with_reducible refine rc_eqI ?_ | with_reducible refine rc_neI ?_ | with_reducible refine rc_ltI ?_ | with_reducible refine rc_leI ?_ | with_reducible refine rc_gtI ?_ | with_reducible refine rc_geI ?_ | with_reducible refine rb_intI ?_ | with_reducible refine ru_neg ?_ | with_reducible refine rb_tupleT ?_ | ((with_reducible refine rb_isInt ?h ?q); (case h => assumption)) | ((with_reducible refine rb_isBool ?h ?q); (case h => assumption)) | ((with_reducible refine rb_isTup ?h ?q); (case h => assumption)) | with_reducible refine rb_len its_tup ?_ | (refine rx_tup (by rfl) ?_) | ((with_reducible refine' rx_lst ?h ?a ?q); (case h => with_reducible assumption); (case a => rfl)))
local macro_rules | `(tactic| walk_at "ss") => `(tactic| first | with_reducible refine ss_ret (se_fg ?_) | with_reducible refine ss_if ?_ | ((with_reducible refine' ss_expr ?q ?st); (case st => rfl)) | ((with_reducible refine' dx_set ?d _ ?h ?hs ?q); (case d => assumption); (case h => with_reducible assumption); (case hs => rfl)) | ((with_reducible refine' ss_asg (tg := .Tuple _ _ _) ?q ?hs ?hw ?h1); (case hs => rfl); (case hw => rfl); (case h1 => rfl)))
local macro_rules | `(tactic| walk_at "s") => `(tactic| first | with_reducible refine sb_one ?_ | with_reducible refine sb_cons ?_ | walk_at "ss")
local macro_rules | `(tactic| walk_at "t") => `(tactic| first | with_reducible refine st_not ?_ | ((with_reducible refine' st_cmp ?q ?st); (case st => first | exact nomark _ | rfl)) | with_reducible refine sw_and1 ?_ | with_reducible refine sw_or1 ?_ | with_reducible refine sw_or ?_ | with_reducible refine sw_and ?_ | ((with_reducible refine' st_chain ?q ?st); (case st => with_unfolding_all rfl)) | (refine st_of ?_; first | with_reducible refine sw_or ?_ | with_reducible refine sw_and ?_) | ((with_reducible refine' st_val ?q ?st); (case st => intro _; rfl)))
local macro_rules | `(tactic| walk_at "go") => `(tactic| repeat (first | walk_at "e" | walk_at "v" | walk_at "s" | walk_at "t"))
local macro_rules | `(tactic| walk_at "gt") => `(tactic| repeat (first | walk_at "e" | walk_at "v" | walk_at "ss" | walk_at "t"))
local macro_rules | `(tactic| walk_at "gx") => `(tactic| repeat (first | walk_at "e" | walk_at "v" | walk_at "ss" | walk_at "t" | refine ⟨by simp only [List.length_cons, List.length_nil]; decide, ?_⟩))
local macro_rules | `(tactic| walk_at "tg") => `(tactic| repeat (first | ((with_reducible refine' sg_tup ?q ?hc ?hn ?st); (case hc => exact DX.calm (by assumption)); (case hn => rfl); (case st => rfl)) | (refine sgs_cons ?_) | with_reducible refine sgs_nil ?_ | ((refine dx_tgt (by assumption) _ (by with_reducible assumption) ?_))))
theorem same_go {M : Mem} {Q : QS} {n : Nat} {x y : S} (h : Sm M n x y) (q : Q (.bl true) M) : C_same n [x, y] M Q E0c := ⟨x, y, rfl, h, q⟩
/-- what is known of an exception class below the package's own -/
structure Cls (K : PySem.W.Frag) (mg : Str → Option Value) (cS : Addr) (nm : Str) (c : Addr) : Prop where
  mg : mg nm = some (.ref c)
  ext : ExT K c
  exm : PySem.W.exmOne K (.ref c) (.ref cS) = some true
  self : PySem.W.kitOne K (.ref c) (.ref c) = some true
/-- a row whose first item is changed -/
def up4 (r : List Int) : List Int := r.set 0 ((r[0]?.getD 0) + 4)
theorem heads {rows : List (List Int)} (h : ∀ r, r ∈ rows → r ≠ []) (i : Nat) (hi : i < rows.length) : ∃ x, rows[i][0]? = some x := by
  have := h _ (List.getElem_mem hi)
  cases e : rows[i] with
  | nil => exact absurd e this
  | cons x xs => exact ⟨x, rfl⟩
def C_sheet_right : Con := fun ss M Q _ => ∃ b sh bl l u, ∃ e : Nat, ss = [picT b sh bl l, .int e, .ptr u] ∧ PicOk b sh bl l ∧ e ≤ 1000 ∧ b.toNat ^ e ≤ 100 ∧ T2 (fun _ => True) M u (shR b sh bl l e) ∧ ∀ M', Sub M M' → Q (.bl true) M'
def C_caught (cI cD : Addr) : Con := fun ss M Q _ => ∃ s, ∃ e : Int, ss = [s, .int e] ∧ Kn M s ∧ ((∃ b sh bl l, s = picT b sh bl l ∧ PicOk b sh bl l ∧ e < 0 ∧ Q (.exn (.ref cD) (.int e)) M) ∨
  (isPic s = false ∧ ∃ n d A0, n ≤ 6 ∧ Da M A0 n s d ∧ ∀ s' M' A, Sub M M' → (∀ p, A p → M p = none) → Da M' A n s' d → Q (.exn (.ref cI) s') M'))
section
variable {P : Program} {w : World} {K : PySem.W.Frag} {mg : Str → Option Value} {base : Heap} {cI cD cS fI fD : Addr}
theorem sc_sheet_right : FnScope ["_law_picture", "_law_depth", "_law_due", "_law_found", "_law_row"] ["_law_picture", "_law_depth", "_law_due"] (defScope s_sheet_right) := ⟨rfl, rfl, rfl, by decide +kernel, rfl, by decide +kernel, by decide +kernel⟩
theorem ok_sheet_right {f : Addr} {fd : FuncData} (F : Fun K "_law_sheet_right" "_law_sheet_right" s_sheet_right f fd) (T : Txt mg) (F_same : Fn P w K mg base "_law_same" 3 (C_same 2)) (F_sheet : Fn P w K mg base "sheet" 9 (C_sheet cI cD)) (K_sheet : FnK P w K mg base "sheet" 9 ["picture", "depth"] (C_sheet cI cD)) : FnOk P w K mg base (L2.CX P w) 10 f fd ["_law_picture", "_law_depth", "_law_due"] (SpC K C_sheet_right) := by
  refine def_ok F sc_sheet_right (fun ss M Q E h => ?_) (fun X G eP ew eK em eb d ss M Q E h wi => ?_)
  · obtain ⟨b, sh, bl, l, u, e, rfl, ok, he, hn, hu, q⟩ := h; rfl
  subst eP ew eK em eb
  have dn := d.dn
  have n0 : nmB ["_law_picture", "_law_depth", "_law_due", "_law_found", "_law_row"] (defScope s_sheet_right) 0 "_law_picture" = true := by decide +kernel
  have n1 : nmB ["_law_picture", "_law_depth", "_law_due", "_law_found", "_law_row"] (defScope s_sheet_right) 1 "_law_depth" = true := by decide +kernel
  have n2 : nmB ["_law_picture", "_law_depth", "_law_due", "_law_found", "_law_row"] (defScope s_sheet_right) 2 "_law_due" = true := by decide +kernel
  have n3 : nmB ["_law_picture", "_law_depth", "_law_due", "_law_found", "_law_row"] (defScope s_sheet_right) 3 "_law_found" = true := by decide +kernel
  have n4 : nmB ["_law_picture", "_law_depth", "_law_due", "_law_found", "_law_row"] (defScope s_sheet_right) 4 "_law_row" = true := by decide +kernel
  have l3 : lcB ["_law_picture", "_law_depth", "_law_due", "_law_found", "_law_row"] (defScope s_sheet_right) 3 "_law_found" = true := by decide +kernel
  have l4 : lcB ["_law_picture", "_law_depth", "_law_due", "_law_found", "_law_row"] (defScope s_sheet_right) 4 "_law_row" = true := by decide +kernel
  have g_sheet : glB (defScope s_sheet_right) "sheet" = true := by decide +kernel
  have g__law_same : glB (defScope s_sheet_right) "_law_same" = true := by decide +kernel
  obtain ⟨b, sh, bl, l, u, e, rfl, ok, he, hn, hu, q⟩ := h
  conv => pattern (defBody _); whnf
  show SSs X G _ [some (picT b sh bl l), some (.int e), some (.ptr u), none, none] M _
  have hz0 : (sizeLine : Nat) = 16777216 := sizeLine_eq
  have b0 := ok.ok.b0
  have ten : (e : Int).toNat = e := Int.toNat_natCast e
  obtain ⟨Rlen, Rrow⟩ := shR_sq ok e
  have cgo : ∀ {Mx : Mem} {Q : QS}, (∀ v vs M', vs.length = (shR b sh bl l e).length → Nx Mx (tabU v vs (shR b sh bl l e)) M' → Q (.ptr v) M') → C_sheet cI cD [picT b sh bl l, .int e] Mx Q E0c := fun {Mx Q} h =>
    ⟨_, _, rfl, Kn.pic Mx b sh bl l, .inl ⟨b, sh, bl, l, rfl, ok, fun z => by omega, fun _ => ⟨by omega, by rw [ten]; exact hn, by rw [ten]; exact h⟩⟩⟩
  have npos : 0 < b.toNat ^ e := Nat.pow_pos (by omega)
  generalize b.toNat ^ e = rs at Rlen Rrow hn npos
  generalize hR : shR b sh bl l e = R at hu cgo Rlen Rrow
  have Rne : ∀ x, x ∈ R → x ≠ [] := fun x hx z => by have := Rrow x hx; rw [z] at this; simp at this; omega
  obtain ⟨us, hus, _, mu0, tu0⟩ := hu
  have tab_u : ∀ {M'}, Sub M M' → Tab M' u R := fun h => ⟨us, hus, h _ _ mu0, fun i a r x y => h _ _ (tu0 i a r x y).2⟩
  walk_at "s"
  walk_at "gt"
  refine cgo fun v vs M8 hvs t8 => ?_
  show SSs _ G _ [some (picT b sh bl l), some (.int e), some (.ptr u), some (.ptr v), none] M8 _
  have tab_v : Tab M8 v R := tab_of (by rw [hvs]) fun c hc => (t8.has c hc).1
  walk_at "s"
  walk_at "gt"
  refine same_go (tab_v.sm (tab_u t8.sub) (by omega) (fun x hx => by rw [Rrow x hx]; omega)) (QB.mk ⟨fun c => (by cases c), fun _ => ?_⟩)
  refine sb_nil ?_
  refine sb_cons ?_
  refine dx_for d (fun _ => rfl) ?_
  refine si_lst ?_
  walk_at "gt"
  refine ⟨v, _, rfl, t8.at 0 rfl, fun i v' M' => i ≤ rs ∧ ∃ y, v' = [some (picT b sh bl l), some (.int e), some (.ptr u), some (.ptr v), y] ∧ Nx M (tabU v vs ((R.take i).map up4 ++ R.drop i)) M', ⟨Nat.zero_le _, none, rfl, by simpa using t8⟩, fun i v' M' hI => by obtain ⟨_, _, _, z⟩ := hI; exact z.at 0 rfl, ?_, ?_⟩
  · rintro i s v' M' es ⟨hi, y, rfl, sx⟩
    rw [List.getElem?_map] at es
    obtain ⟨a, ha, rfl⟩ := Option.map_eq_some_iff.mp es
    have hlt : i < rs := by have := (List.getElem?_eq_some_iff.mp ha).1; omega
    have hlt2 : i < R.length := by omega
    generalize hR2 : (R.take i).map up4 ++ R.drop i = R2 at sx
    have R2len : R2.length = rs := by rw [← hR2, List.length_append, List.length_map, List.length_take, List.length_drop]; omega
    have R2i : R2[i]? = some R[i] := by
      rw [← hR2, List.getElem?_append_right (by rw [List.length_map, List.length_take]; omega), List.length_map, List.length_take, Nat.min_eq_left (by omega), Nat.sub_self, List.getElem?_drop, Nat.add_zero, List.getElem?_eq_getElem hlt2]
    obtain ⟨x, hx⟩ := heads Rne i hlt2
    have em : (tabU v vs R2)[i + 1]? = some (a, .lst (R[i].map S.int)) := tabC_get ha R2i
    have ma := sx.at (i + 1) em
    refine dx_tgt d 4 l4 ?_
    show SSs _ G _ [some (picT b sh bl l), some (.int e), some (.ptr u), some (.ptr v), some (.ptr a)] M' _
    have ax : atI (R[i].map S.int) 0 = some (.int x) := at_in (by omega) (by show (R[i].map S.int)[0]? = _; rw [List.getElem?_map, hx]; rfl)
    refine sb_one ?_
    refine ss_asg ?_
    walk_at "gt"
    refine rx_lst ma ax ?_
    walk_at "gt"
    refine sg_item ?_
    walk_at "gt"
    have hl0 : 0 < R[i].length := (List.getElem?_eq_some_iff.mp hx).1
    refine ⟨a, _, 0, 0, rfl, rfl, ma, ixN_in (by omega) (by rw [List.length_map]; omega), ?_⟩
    have z1 := sx.set (i + 1) em (o' := .lst ((R[i].map S.int).set 0 (.int (x + 4))))
    rw [set_ints] at z1 ⊢
    have eu : R[i].set 0 (x + 4) = up4 R[i] := by unfold up4; rw [hx]; rfl
    rw [eu] at z1 ⊢
    refine ⟨hlt, _, rfl, ?_⟩
    have e1 : (tabU v vs R2).set (i + 1) (a, .lst ((up4 R[i]).map S.int)) = tabU v vs (R2.set i (up4 R[i])) := by
      show (_ :: tabC vs R2).set (i + 1) _ = _ :: tabC vs _
      rw [List.set_cons_succ, tabC_set ha (by omega)]
    rw [e1] at z1
    have e2 : R2.set i (up4 R[i]) = (R.take (i + 1)).map up4 ++ R.drop (i + 1) := by
      rw [← hR2, List.set_append_right _ _ (by rw [List.length_map, List.length_take]; omega), List.length_map, List.length_take, Nat.min_eq_left (by omega), Nat.sub_self, List.drop_eq_getElem_cons hlt2, List.set_cons_zero, List.take_add_one, List.getElem?_eq_getElem hlt2, List.map_append, List.append_assoc]
      rfl
    rw [e2] at z1
    exact z1
  · rintro v' M9 ⟨hi, y, rfl, s9⟩
    rw [List.length_map, hvs, Rlen] at s9
    have e3 : (R.take rs).map up4 ++ R.drop rs = R.map up4 := by rw [List.take_of_length_le (by omega), List.drop_of_length_le (by omega), List.append_nil]
    rw [e3] at s9
    have tv : ∀ i a, vs[i]? = some a → ∀ hi : i < R.length, M9 a = some (.lst ((up4 R[i]).map S.int)) := fun i a ha hi => (s9.has (a, .lst ((up4 R[i]).map S.int)) (List.mem_cons_of_mem _ (List.mem_of_getElem? (tabC_get ha (by rw [List.getElem?_map, List.getElem?_eq_getElem hi]; rfl))))).1
    have tu : ∀ i a, us[i]? = some a → ∀ hi : i < R.length, M9 a = some (.lst (R[i].map S.int)) := fun i a ha hi => s9.sub _ _ (tu0 i a _ ha (List.getElem?_eq_getElem hi)).2
    have mv : M9 v = some (.lst (vs.map S.ptr)) := s9.at 0 rfl
    have mu : M9 u = some (.lst (us.map S.ptr)) := s9.sub _ _ mu0
    have hd : ∀ i (hi : i < R.length), ∃ x, R[i][0]? = some x := fun i hi => heads Rne i hi
    have hd4 : ∀ i (hi : i < R.length) x, R[i][0]? = some x → (up4 R[i])[0]? = some (x + 4) := fun i hi x hx => by
      unfold up4
      rw [hx, List.getElem?_set_self (List.getElem?_eq_some_iff.mp hx).1]
      rfl
    walk_at "s"
    walk_at "gt"
    refine dx_lcR dn d.nd 4 (by decide +kernel) (fun _ => rfl) ?_
    refine si_lst ?_
    walk_at "gt"
    refine ⟨v, _, rfl, mv, ?_⟩
    refine lc_mapI (fun j => .int ((R[j]?.bind fun r => r[0]?).getD 0 + 4)) (by rw [List.length_map]; omega) (fun M5 h5 => h5 _ _ mv) (fun j s M5 es hM s0 H0 C0 cl0 fp0 dn1 => ?_) fun D1 M10 hD1 t10 => ?_
    · rw [List.getElem?_map] at es
      obtain ⟨a, ha, rfl⟩ := Option.map_eq_some_iff.mp es
      have hj : j < R.length := by have := (List.getElem?_eq_some_iff.mp ha).1; omega
      obtain ⟨x, hx⟩ := hd j hj
      have m4 := nm_of dn1 4 "_law_row" (by decide +kernel)
      walk_at "gt"
      refine rx_lst (hM _ _ (tv j a ha hj)) (at_in (s := .int (x + 4)) (by omega) (by show ((up4 R[j]).map S.int)[0]? = _; rw [List.getElem?_map, hd4 j hj x hx]; rfl)) ⟨?_, Sub.refl⟩
      rw [List.getElem?_eq_getElem hj]
      show S.int (x + 4) = S.int ((R[j][0]?).getD 0 + 4)
      rw [hx]; rfl
    rw [List.length_map, hvs] at t10
    walk_at "gt"
    refine dx_lcR dn d.nd 4 (by decide +kernel) (fun _ => rfl) ?_
    refine si_lst ?_
    walk_at "gt"
    refine ⟨u, _, rfl, t10.sub _ _ mu, ?_⟩
    refine lc_mapI (fun j => .int ((R[j]?.bind fun r => r[0]?).getD 0 + 4)) (by rw [List.length_map]; omega) (fun M5 h5 => h5 _ _ (t10.sub _ _ mu)) (fun j s M5 es hM s0 H0 C0 cl0 fp0 dn1 => ?_) fun D2 M11 hD2 t11 => ?_
    · rw [List.getElem?_map] at es
      obtain ⟨a, ha, rfl⟩ := Option.map_eq_some_iff.mp es
      have hj : j < R.length := by have := (List.getElem?_eq_some_iff.mp ha).1; omega
      obtain ⟨x, hx⟩ := hd j hj
      have m4 := nm_of dn1 4 "_law_row" (by decide +kernel)
      walk_at "gt"
      refine rx_lst (hM _ _ (t10.sub _ _ (tu j a ha hj))) (at_in (s := .int x) (by omega) (by show (R[j].map S.int)[0]? = _; rw [List.getElem?_map, hx]; rfl)) ?_
      walk_at "gt"
      refine ⟨?_, Sub.refl⟩
      rw [List.getElem?_eq_getElem hj]
      show S.int (x + 4) = S.int ((R[j][0]?).getD 0 + 4)
      rw [hx]; rfl
    rw [List.length_map, hus] at t11
    have s11 := (s9.call t10).call t11
    have e4 : (List.range R.length).map (fun j => S.int ((R[j]?.bind fun r => r[0]?).getD 0 + 4)) = ((List.range R.length).map fun j => (R[j]?.bind fun r => r[0]?).getD 0 + 4).map S.int := by rw [List.map_map]; rfl
    rw [e4] at s11 t10 t11
    refine rc_neIs dn (s11.at 1 rfl) (s11.at 0 rfl) (QB.mk ⟨fun c => ?_, fun _ => ?_⟩)
    · rw [decide_eq_true rfl] at c; cases c
    refine sb_nil ?_
    have s11 : Nx M (tabU v vs (R.map up4)) M11 := s11.drop 2
    have mv : M11 v = some (.lst (vs.map S.ptr)) := s11.at 0 rfl
    show SSs _ G _ [some (picT b sh bl l), some (.int e), some (.ptr u), some (.ptr v), y] M11 _
    walk_at "s"
    walk_at "ss"
    refine se_append ?_
    walk_at "gt"
    refine ⟨v, rfl, ⟨_, mv⟩, ?_⟩
    walk_at "gx"
    intro u5 h5
    have s12 := s11.new h5 (o := .lst [])
    refine ⟨_, s12.at 1 rfl, by rw [List.length_map]; omega, ?_⟩
    have s13 := s12.set 1 rfl (o' := .lst (vs.map S.ptr ++ [.ptr u5]))
    generalize g13 : updM _ v _ = M13 at s13 ⊢
    show SSs _ G _ [some (picT b sh bl l), some (.int e), some (.ptr u), some (.ptr v), y] M13 _
    walk_at "go"
    refine cgo fun v2 vs2 M14 hvs2 t14 => ?_
    have tab2 : Tab M14 v2 R := tab_of (by rw [hvs2]) fun c hc => (t14.has c hc).1
    walk_at "go"
    exact same_go (tab2.sm (tab_u (s13.sub.trans t14.sub)) (by omega) (fun x hx => by rw [Rrow x hx]; omega)) ⟨M14, Sub.refl, q M14 (s13.sub.trans t14.sub)⟩
theorem sc_caught : FnScope ["_law_picture", "_law_depth", "_law_caught_here", "e"] ["_law_picture", "_law_depth"] (defScope s_caught) := ⟨rfl, rfl, rfl, by decide +kernel, rfl, by decide +kernel, by decide +kernel⟩
theorem ok_caught {f : Addr} {fd : FuncData} (F : Fun K "_law_caught" "_law_caught" s_caught f fd) (TS : mg "SheetError" = some (.ref cS)) (KI : Cls K mg cS "InvalidPicture" cI) (KD : Cls K mg cS "InvalidDepth" cD) (F_sheet : Fn P w K mg base "sheet" 9 (C_sheet cI cD)) : FnOk P w K mg base (L2.CX P w) 10 f fd ["_law_picture", "_law_depth"] (SpC K (C_caught cI cD)) := by
  refine def_okE F sc_caught (fun ss M Q E h => ?_) (fun X G eP ew eK em eb d de ss M Q E h wi => ?_)
  · obtain ⟨s, e, rfl, hk, hq⟩ := h; rfl
  subst eP ew eK em eb
  have dn := d.dn
  have n0 : nmB ["_law_picture", "_law_depth", "_law_caught_here", "e"] (defScope s_caught) 0 "_law_picture" = true := by decide +kernel
  have n1 : nmB ["_law_picture", "_law_depth", "_law_caught_here", "e"] (defScope s_caught) 1 "_law_depth" = true := by decide +kernel
  have n2 : nmB ["_law_picture", "_law_depth", "_law_caught_here", "e"] (defScope s_caught) 2 "_law_caught_here" = true := by decide +kernel
  have n3 : nmB ["_law_picture", "_law_depth", "_law_caught_here", "e"] (defScope s_caught) 3 "e" = true := by decide +kernel
  have l2 : lcB ["_law_picture", "_law_depth", "_law_caught_here", "e"] (defScope s_caught) 2 "_law_caught_here" = true := by decide +kernel
  have l3 : lcB ["_law_picture", "_law_depth", "_law_caught_here", "e"] (defScope s_caught) 3 "e" = true := by decide +kernel
  have g_sheet : glB (defScope s_caught) "sheet" = true := by decide +kernel
  have g_SheetError : glB (defScope s_caught) "SheetError" = true := by decide +kernel
  obtain ⟨s, e, rfl, hk, hq⟩ := h
  conv => pattern (defBody _); whnf
  show SSs X G _ [some s, some (.int e), none, none] M _
  walk_at "s"
  walk_at "gt"
  show SSs _ G _ [some s, some (.int e), some (.non), none] M _
  refine sb_cut (fun env' M' => (∃ x y, env' = [some s, some (.int e), some x, y] ∧ FG Q x M')) ?_ ?_
  · refine dx_keep d de 3 2 (by decide +kernel) (by decide +kernel) (by decide) (by decide +kernel) TS (by decide) (by decide) (by decide) rfl fun G1 kG pn xe d' wi' => ?_
    have dn' := d'.dn
    refine sb_one ?_
    refine ss_expr ?_ rfl
    refine dn_callX dn' wi' F_sheet g_sheet (by decide) (by decide) rfl rfl ?_
    refine sa_cons (dn_name dn' 0 n0 rfl (sa_cons (dn_name dn' 1 n1 rfl (sa_nil ?_))))
    rcases hq with ⟨b, sh, bl, l, rfl, ok, h0, q⟩ | ⟨hn, n, dt, A0, hle, hd, q⟩
    · exact ⟨_, e, rfl, hk, .inl ⟨b, sh, bl, l, rfl, ok, fun h => ⟨by simp, KD.exm, _, _, rfl, M, Sub.refl, q⟩, fun h => by omega⟩⟩
    · exact ⟨s, e, rfl, hk, .inr ⟨hn, n, dt, A0, hle, hd, fun s' M' A h1 h2 h3 => ⟨by simp, KI.exm, _, _, rfl, M', Sub.refl, q s' M' A h1 h2 h3⟩⟩⟩
  rintro env' M' ⟨x, y, rfl, M0, hs, hq⟩
  walk_at "go"
  exact ⟨_, hs, hq⟩
end

end Sy

set_option Elab.async false
set_option linter.all false
set_option maxRecDepth 100000
set_option maxHeartbeats 1000000
namespace Sy
open PySem PySem.Spec PyProof.Rows L2
local macro_rules | `(tactic| walk_at "nm") => `(tactic| ((with_reducible refine' dn_name ?d _ ?h ?he ?q); (case d => assumption); (case h => with_reducible assumption); (case he => rfl)))
local macro_rules | `(tactic| walk_at "cn") => `(tactic| first | with_reducible refine se_int ?_ | with_reducible refine se_bl ?_ | with_reducible refine se_non ?_ | with_reducible refine se_str ?_)
local macro_rules | `(tactic| walk_at "ct") => `(tactic| ((with_reducible refine' dn_callT ?d ?m ?v ?g ?n ?db ?st ?pl ?q); (case d => assumption); (case m => with_reducible assumption); (case v => first | with_reducible exact bt_int | with_reducible exact bt_tuple | with_reducible exact bt_list | with_reducible exact bt_str | with_reducible exact bt_bool); (case g => with_reducible assumption); (case n => decide); (case db => decide); (case st => rfl); (case pl => rfl)))
local macro_rules | `(tactic| walk_at "cb") => `(tactic| ((with_reducible refine' dn_callB ?d ?m ?v ?g ?n ?db ?st ?pl ?q); (case d => assumption); (case m => with_reducible assumption); (case v => first | with_reducible exact bf_len | with_reducible exact bf_isinstance | with_reducible exact bf_all | with_reducible exact bf_max | with_reducible exact bf_min | with_reducible exact bf_abs | with_reducible exact bf_sum | with_reducible exact bf_any | with_reducible exact bf_repr); (case g => with_reducible assumption); (case n => decide); (case db => decide); (case st => rfl); (case pl => rfl)))
local macro_rules | `(tactic| walk_at "cf") => `(tactic| ((with_reducible refine' dn_call ?d ?F ?g ?k ?db ?st ?pl ?q); (case d => assumption); (case F => with_reducible assumption); (case g => with_reducible assumption); (case k => decide); (case db => decide); (case st => rfl); (case pl => rfl)))
local macro_rules | `(tactic| walk_at "tv") => `(tactic| ((with_reducible refine' dn_ty ?d ?m ?v ?g ?n ?db ?q); (case d => assumption); (case m => with_reducible assumption); (case v => first | with_reducible exact bt_int | with_reducible exact bt_tuple | with_reducible exact bt_list | with_reducible exact bt_str | with_reducible exact bt_bool); (case g => with_reducible assumption); (case n => decide); (case db => decide)))
local macro_rules | `(tactic| walk_at "ck") => `(tactic| ((with_reducible refine' dn_kw ?d ?F ?g ?k ?db ?a ?ks ?pl ?q); (case d => assumption); (case F => with_reducible assumption); (case g => with_reducible assumption); (case k => decide); (case db => decide); (case a => rfl); (case ks => rfl); (case pl => rfl)))
local macro_rules | `(tactic| walk_at "e") => `(tactic| first | walk_at "nm" | walk_at "cn" | with_reducible refine se_bin ?_ | ((with_reducible refine' se_cmp ?q ?st); (case st => first | exact nomark _ | rfl)) | ((with_reducible refine' se_ix ?q ?st); (case st => exact fun _ _ => rfl)) | with_reducible refine sa_nil ?_ | ((with_reducible refine' sa_cons ?q ?st); (case st => rfl)) | walk_at "cf" | walk_at "ck" | with_reducible refine sk_nil ?_ | with_reducible refine sk_cons ?_ | walk_at "cb" | walk_at "ct" | walk_at "tv" | with_reducible refine se_one ?_ | ((with_reducible refine' se_chain ?q ?st); (case st => with_unfolding_all rfl)) | with_reducible refine se_tup ?_ | with_reducible refine se_lst ?_ | with_reducible refine se_and ?_ | with_reducible refine se_or ?_ | with_reducible refine se_not ?_ | with_reducible refine se_un ?_ )
local macro_rules | `(tactic| walk_at "v") => `(tactic| first | with_reducible refine ro_addI ?_ | with_reducible refine rc_isIB ?_ | with_reducible refine rc_eqB ?_ | with_reducible refine rc_neB ?_ | with_reducible refine rc_isN ?_ | with_reducible refine rc_notN ?_ | with_reducible refine ro_subI ?_ | with_reducible refine rc_eqI ?_ | with_reducible refine rc_neI ?_ | with_reducible refine rc_ltI ?_ | with_reducible refine rc_leI ?_ | with_reducible refine rc_gtI ?_ | with_reducible refine rc_geI ?_ | with_reducible refine rb_intI ?_ | with_reducible refine ru_neg ?_ | with_reducible refine rb_tupleT ?_ | ((with_reducible refine rb_isInt ?h ?q); (case h => assumption)) | ((with_reducible refine rb_isBool ?h ?q); (case h => assumption)) | ((with_reducible refine rb_isTup ?h ?q); (case h => assumption)) | with_reducible refine rb_len its_tup ?_ | (refine rx_tup (by rfl) ?_) | ((with_reducible refine' rx_lst ?h ?a ?q); (case h => with_reducible assumption); (case a => rfl)))
local macro_rules | `(tactic| walk_at "ss") => `(tactic| first | with_reducible refine ss_ret (se_fg ?_) | with_reducible refine ss_if ?_ | ((with_reducible refine' ss_expr ?q ?st); (case st => rfl)) | ((with_reducible refine' dx_set ?d _ ?h ?hs ?q); (case d => assumption); (case h => with_reducible assumption); (case hs => rfl)) | ((with_reducible refine' ss_asg (tg := .Tuple _ _ _) ?q ?hs ?hw ?h1); (case hs => rfl); (case hw => rfl); (case h1 => rfl)))
local macro_rules | `(tactic| walk_at "s") => `(tactic| first | with_reducible refine sb_one ?_ | with_reducible refine sb_cons ?_ | walk_at "ss")
local macro_rules | `(tactic| walk_at "t") => `(tactic| first | with_reducible refine st_not ?_ | ((with_reducible refine' st_cmp ?q ?st); (case st => first | exact nomark _ | rfl)) | with_reducible refine sw_and1 ?_ | with_reducible refine sw_or1 ?_ | with_reducible refine sw_or ?_ | with_reducible refine sw_and ?_ | ((with_reducible refine' st_chain ?q ?st); (case st => with_unfolding_all rfl)) | (refine st_of ?_; first | with_reducible refine sw_or ?_ | with_reducible refine sw_and ?_) | ((with_reducible refine' st_val ?q ?st); (case st => intro _; rfl)))
local macro_rules | `(tactic| walk_at "go") => `(tactic| repeat (first | walk_at "e" | walk_at "v" | walk_at "s" | walk_at "t"))
local macro_rules | `(tactic| walk_at "gt") => `(tactic| repeat (first | walk_at "e" | walk_at "v" | walk_at "ss" | walk_at "t"))
local macro_rules | `(tactic| walk_at "gx") => `(tactic| repeat (first | walk_at "e" | walk_at "v" | walk_at "ss" | walk_at "t" | refine ⟨by simp only [List.length_cons, List.length_nil]; decide, ?_⟩))
local macro_rules | `(tactic| walk_at "tg") => `(tactic| repeat (first | ((with_reducible refine' sg_tup ?q ?hc ?hn ?st); (case hc => exact DX.calm (by assumption)); (case hn => rfl); (case st => rfl)) | (refine sgs_cons ?_) | with_reducible refine sgs_nil ?_ | ((refine dx_tgt (by assumption) _ (by with_reducible assumption) ?_))))
def DaE (M : Mem) (A : Addr → Prop) (n : Nat) (s : S) : Prop := ∃ d, Da M A n s d
section
variable {M M' : Mem} {A A' : Addr → Prop} {n : Nat} {s : S}
theorem DaE.frame (h : DaE M A n s) (k : ∀ p o, A p → M p = some o → M' p = some o) (e : ∀ p, A p → A' p) : DaE M' A' n s := ⟨_, h.choose_spec.frame k e⟩
theorem da_list : ∀ {xs : List S}, (∀ s, s ∈ xs → DaE M A n s) → ∃ ds : List PyData, xs.length = ds.length ∧ ∀ (k : Nat) (x : S) (d : PyData), xs[k]? = some x → ds[k]? = some d → Da M A n x d
  | [], _ => ⟨[], rfl, fun k x d h => by simp at h⟩
  | x :: xs, h => by
    obtain ⟨d, hd⟩ := h x List.mem_cons_self
    obtain ⟨ds, h1, h2⟩ := da_list fun s hs => h s (List.mem_cons_of_mem _ hs)
    refine ⟨d :: ds, by rw [List.length_cons, List.length_cons, h1], fun k y e a b => ?_⟩
    cases k with
    | zero => cases a; cases b; exact hd
    | succ k => exact h2 k y e a b
theorem DaE.tup {xs : List S} (h : ∀ s, s ∈ xs → DaE M A n s) (hw : xs.length ≤ Wd (n + 1)) : DaE M A (n + 1) (.tup xs) := by
  obtain ⟨ds, h1, h2⟩ := da_list h
  exact ⟨_, .tup h1 hw h2⟩
theorem DaE.lst {xs : List S} {p : Addr} (hA : A p) (hp : M p = some (.lst xs)) (h : ∀ s, s ∈ xs → DaE M A n s) (hw : xs.length ≤ Wd (n + 1)) : DaE M A (n + 1) (.ptr p) := by
  obtain ⟨ds, h1, h2⟩ := da_list h
  exact ⟨_, .lst hA hp h1 hw h2⟩
theorem DaE.int {i : Int} (hb : i.natAbs < 10 ^ 12) : DaE M A n (.int i) := by
  refine ⟨_, .int n i ⟨?_, Nat.le_trans (PyData.shown_int_le hb) (by decide)⟩⟩
  have z : i.natAbs < 2 ^ 40 := Nat.lt_of_lt_of_le hb (by decide)
  have := PySem.Flt.log2_lt_of (by decide : 0 < 40) z
  omega
theorem wd_5 (n : Nat) : 5 ≤ Wd n := by unfold Wd; split <;> omega
theorem e12 : (10 : Nat) ^ 12 = 1000000000000 := by decide
theorem DaE.ints {ns : List Int} (hl : ns.length ≤ Wd (n + 1)) (h : ∀ i, i ∈ ns → 0 ≤ i ∧ i < 1000) : DaE M A (n + 1) (.tup (ns.map S.int)) := .tup (fun s hs => by
  obtain ⟨i, hi, rfl⟩ := List.mem_map.mp hs
  have := h i hi
  have := e12
  exact .int (by omega)) (by rw [List.length_map]; exact hl)
theorem DaE.row {b : Int} {sh : List Int} {bl : List Blk} (ok : BookOk b sh bl) {B : Blk} (hB : B ∈ bl) {r : List Int} (hr : r ∈ B) : DaE M A 2 (rowT r) := by
  have b1 := ok.b1
  have l1 := ok.l1
  obtain ⟨h1, h2⟩ := (ok.hb B hB).2 r hr
  exact .ints (Nat.le_trans (by omega) (wd_5 _)) fun i hi => by have := h2 i hi; omega
theorem DaE.blk {b : Int} {sh : List Int} {bl : List Blk} (ok : BookOk b sh bl) {B : Blk} (hB : B ∈ bl) : DaE M A 3 (blkT B) := by
  have b1 := ok.b1
  have h1 := (ok.hb B hB).1
  refine .tup (fun s hs => ?_) (by rw [List.length_map]; exact Nat.le_trans (by omega) (wd_5 _))
  obtain ⟨r, hr, rfl⟩ := List.mem_map.mp hs
  exact .row ok hB hr
theorem DaE.blks {b : Int} {sh : List Int} {bl : List Blk} (ok : BookOk b sh bl) : ∀ s, s ∈ bl.map blkT → DaE M A 3 s := fun s hs => by
  obtain ⟨B, hB, rfl⟩ := List.mem_map.mp hs
  exact .blk ok hB
theorem DaE.shades {b : Int} {sh : List Int} {bl : List Blk} (ok : BookOk b sh bl) : DaE M A 4 (.tup (sh.map S.int)) := .ints (by have := ok.l1; show _ ≤ 64; omega) fun i hi => by have := ok.hs i hi; omega
/-- a book that may be none -/
theorem DaE.like {b c : Int} {sh : List Int} {bl : List Blk} {z : S} (ok : BookOk b sh bl) (h0 : 0 ≤ c) (h1 : c < 1000) (hz : DaE M A 4 z) : DaE M A 5 (.tup [.int c, .tup (sh.map S.int), z]) := by
  refine .tup (fun s hs => ?_) (wd_5 _ |> Nat.le_trans (by simp))
  simp only [List.mem_cons, List.not_mem_nil, or_false] at hs
  have := e12
  rcases hs with rfl | rfl | rfl
  · exact .int (by omega)
  · exact .shades ok
  · exact hz
theorem DaE.book {b : Int} {sh : List Int} {bl : List Blk} (ok : BookOk b sh bl) : DaE M A 5 (bookT b sh bl) := .like ok (by have := ok.b0; omega) (by have := ok.b1; omega) (.tup (DaE.blks ok) (by rw [List.length_map, ok.lb]; exact ok.l1))
theorem DaE.pair {z : S} {l : Int} (hz : DaE M A 5 z) (h0 : -1 ≤ l) (h1 : l < 1000) : ∀ s, s ∈ [z, .int l] → DaE M A 5 s := fun s hs => by
  simp only [List.mem_cons, List.not_mem_nil, or_false] at hs
  have := e12
  rcases hs with rfl | rfl
  · exact hz
  · exact .int (by omega)
theorem DaE.mono {m : Nat} (h : DaE M A 5 s) : DaE M A 6 s ∨ True := .inr True.intro
end

end Sy

set_option Elab.async false
set_option linter.all false
set_option maxRecDepth 100000
set_option maxHeartbeats 1000000
namespace Sy
open PySem PySem.Spec PyProof.Rows L2
local macro_rules | `(tactic| walk_at "nm") => `(tactic| ((with_reducible refine' dn_name ?d _ ?h ?he ?q); (case d => assumption); (case h => with_reducible assumption); (case he => rfl)))
local macro_rules | `(tactic| walk_at "cn") => `(tactic| first | with_reducible refine se_int ?_ | with_reducible refine se_bl ?_ | with_reducible refine se_non ?_ | with_reducible refine se_str ?_)
local macro_rules | `(tactic| walk_at "ct") => `(tactic| ((with_reducible refine' dn_callT ?d ?m ?v ?g ?n ?db ?st ?pl ?q); (case d => assumption); (case m => with_reducible assumption); (case v => first | with_reducible exact bt_int | with_reducible exact bt_tuple | with_reducible exact bt_list | with_reducible exact bt_str | with_reducible exact bt_bool); (case g => with_reducible assumption); (case n => decide); (case db => decide); (case st => rfl); (case pl => rfl)))
local macro_rules | `(tactic| walk_at "cb") => `(tactic| ((with_reducible refine' dn_callB ?d ?m ?v ?g ?n ?db ?st ?pl ?q); (case d => assumption); (case m => with_reducible assumption); (case v => first | with_reducible exact bf_len | with_reducible exact bf_isinstance | with_reducible exact bf_all | with_reducible exact bf_max | with_reducible exact bf_min | with_reducible exact bf_abs | with_reducible exact bf_sum | with_reducible exact bf_any | with_reducible exact bf_repr); (case g => with_reducible assumption); (case n => decide); (case db => decide); (case st => rfl); (case pl => rfl)))
local macro_rules | `(tactic| walk_at "cf") => `(tactic| ((with_reducible refine' dn_call ?d ?F ?g ?k ?db ?st ?pl ?q); (case d => assumption); (case F => with_reducible assumption); (case g => with_reducible assumption); (case k => decide); (case db => decide); (case st => rfl); (case pl => rfl)))
local macro_rules | `(tactic| walk_at "tv") => `(tactic| ((with_reducible refine' dn_ty ?d ?m ?v ?g ?n ?db ?q); (case d => assumption); (case m => with_reducible assumption); (case v => first | with_reducible exact bt_int | with_reducible exact bt_tuple | with_reducible exact bt_list | with_reducible exact bt_str | with_reducible exact bt_bool); (case g => with_reducible assumption); (case n => decide); (case db => decide)))
local macro_rules | `(tactic| walk_at "ck") => `(tactic| ((with_reducible refine' dn_kw ?d ?F ?g ?k ?db ?a ?ks ?pl ?q); (case d => assumption); (case F => with_reducible assumption); (case g => with_reducible assumption); (case k => decide); (case db => decide); (case a => rfl); (case ks => rfl); (case pl => rfl)))
local macro_rules | `(tactic| walk_at "e") => `(tactic| first | walk_at "nm" | walk_at "cn" | with_reducible refine se_bin ?_ | ((with_reducible refine' se_cmp ?q ?st); (case st => first | exact nomark _ | rfl)) | ((with_reducible refine' se_ix ?q ?st); (case st => exact fun _ _ => rfl)) | with_reducible refine sa_nil ?_ | ((with_reducible refine' sa_cons ?q ?st); (case st => rfl)) | walk_at "cf" | walk_at "ck" | with_reducible refine sk_nil ?_ | with_reducible refine sk_cons ?_ | walk_at "cb" | walk_at "ct" | walk_at "tv" | with_reducible refine se_one ?_ | ((with_reducible refine' se_chain ?q ?st); (case st => with_unfolding_all rfl)) | with_reducible refine se_tup ?_ | with_reducible refine se_lst ?_ | with_reducible refine se_and ?_ | with_reducible refine se_or ?_ | with_reducible refine se_not ?_ | with_reducible refine se_un ?_ )
local macro_rules | `(tactic| walk_at "v") => `(tactic| first | with_reducible refine ro_addI ?_ | with_reducible refine rc_isIB ?_ | with_reducible refine rc_eqB ?_ | with_reducible refine rc_neB ?_ | with_reducible refine rc_isN ?_ | with_reducible refine rc_notN ?_ | with_reducible refine ro_subI ?_ | with_reducible refine rc_eqI ?_ | with_reducible refine rc_neI ?_ | with_reducible refine rc_ltI ?_ | with_reducible refine rc_leI ?_ | with_reducible refine rc_gtI ?_ | with_reducible refine rc_geI ?_ | with_reducible refine rb_intI ?_ | with_reducible refine ru_neg ?_ | with_reducible refine rb_tupleT ?_ | ((with_reducible refine rb_isInt ?h ?q); (case h => assumption)) | ((with_reducible refine rb_isBool ?h ?q); (case h => assumption)) | ((with_reducible refine rb_isTup ?h ?q); (case h => assumption)) | with_reducible refine rb_len its_tup ?_ | (refine rx_tup (by rfl) ?_) | ((with_reducible refine' rx_lst ?h ?a ?q); (case h => with_reducible assumption); (case a => rfl)))
local macro_rules | `(tactic| walk_at "ss") => `(tactic| first | with_reducible refine ss_ret (se_fg ?_) | with_reducible refine ss_if ?_ | ((with_reducible refine' ss_expr ?q ?st); (case st => rfl)) | ((with_reducible refine' dx_set ?d _ ?h ?hs ?q); (case d => assumption); (case h => with_reducible assumption); (case hs => rfl)) | ((with_reducible refine' ss_asg (tg := .Tuple _ _ _) ?q ?hs ?hw ?h1); (case hs => rfl); (case hw => rfl); (case h1 => rfl)))
local macro_rules | `(tactic| walk_at "s") => `(tactic| first | with_reducible refine sb_one ?_ | with_reducible refine sb_cons ?_ | walk_at "ss")
local macro_rules | `(tactic| walk_at "t") => `(tactic| first | with_reducible refine st_not ?_ | ((with_reducible refine' st_cmp ?q ?st); (case st => first | exact nomark _ | rfl)) | with_reducible refine sw_and1 ?_ | with_reducible refine sw_or1 ?_ | with_reducible refine sw_or ?_ | with_reducible refine sw_and ?_ | ((with_reducible refine' st_chain ?q ?st); (case st => with_unfolding_all rfl)) | (refine st_of ?_; first | with_reducible refine sw_or ?_ | with_reducible refine sw_and ?_) | ((with_reducible refine' st_val ?q ?st); (case st => intro _; rfl)))
local macro_rules | `(tactic| walk_at "go") => `(tactic| repeat (first | walk_at "e" | walk_at "v" | walk_at "s" | walk_at "t"))
local macro_rules | `(tactic| walk_at "gt") => `(tactic| repeat (first | walk_at "e" | walk_at "v" | walk_at "ss" | walk_at "t"))
local macro_rules | `(tactic| walk_at "gx") => `(tactic| repeat (first | walk_at "e" | walk_at "v" | walk_at "ss" | walk_at "t" | refine ⟨by simp only [List.length_cons, List.length_nil]; decide, ?_⟩))
local macro_rules | `(tactic| walk_at "tg") => `(tactic| repeat (first | ((with_reducible refine' sg_tup ?q ?hc ?hn ?st); (case hc => exact DX.calm (by assumption)); (case hn => rfl); (case st => rfl)) | (refine sgs_cons ?_) | with_reducible refine sgs_nil ?_ | ((refine dx_tgt (by assumption) _ (by with_reducible assumption) ?_))))
structure Bad (M : Mem) (A : Addr → Prop) (z : S) : Prop where
  kn : Kn M z
  no : isPic z = false
  da : ∃ n, n ≤ 6 ∧ DaE M A n z
def C_refused : Con := fun ss M Q _ => ∃ p n b sh bl l, ss = [.ptr p, picT b sh bl l] ∧ PicOk b sh bl l ∧ Ink M p n ∧ n ≤ 100000000 ∧ ∀ M', Sx p (n + 100) M [] M' → Q (.bl true) M'
section
variable {P : Program} {w : World} {K : PySem.W.Frag} {mg : Str → Option Value} {base : Heap} {cI cD cS fI fD : Addr}
theorem rc_eqStr {X : Cx} {M : Mem} {Q : QS} {x : Str} (q : Q (.bl true) M) : RC X .Eq (.str x) (.str x) M Q := fun v w H m r1 r2 => by
  cases r1; cases r2
  refine ⟨_, op_eq, rfl, ?_⟩
  have e : decide (V.str x = V.str x) = true := decide_eq_true rfl
  rw [e]
  exact pack (.bl _) m q
theorem rc_neStr {X : Cx} {M : Mem} {Q : QS} {x : Str} (q : Q (.bl false) M) : RC X .NotEq (.str x) (.str x) M Q := fun v w H m r1 r2 => by
  cases r1; cases r2
  refine ⟨_, op_ne, rfl, ?_⟩
  have e : (!decide (V.str x = V.str x)) = false := by rw [decide_eq_true rfl]; rfl
  rw [e]
  exact pack (.bl _) m q
theorem bad_go {M : Mem} {A : Addr → Prop} {Q : QS} {z : S} {e : Int} (h : Bad M A z) (q : ∀ s' M' d n A1 A2, n ≤ 6 → Sub M M' → Da M' A1 n s' d → Da M' A2 n z d → Q (.exn (.ref cI) s') M') : C_caught cI cD [z, .int e] M Q E0c := by
  obtain ⟨n, hn, d, hd⟩ := h.da
  exact ⟨z, e, rfl, h.kn, .inr ⟨h.no, n, d, A, hn, hd, fun s' M' A1 h1 _ h3 => q s' M' d n A1 A hn h1 h3 (hd.sub h1)⟩⟩
theorem sc_refused : FnScope ["_law_ink_here", "_law_picture", "_law_book_here", "_law_letter", "_law_below", "_law_caught_here", "_law_other", "_law_bad"] ["_law_ink_here", "_law_picture"] (defScope s_refused) := ⟨rfl, rfl, rfl, by decide +kernel, rfl, by decide +kernel, by decide +kernel⟩
theorem ok_refused {f : Addr} {fd : FuncData} (F : Fun K "_law_refused" "_law_refused" s_refused f fd) (T : Txt mg) (KI : Cls K mg cS "InvalidPicture" cI) (KD : Cls K mg cS "InvalidDepth" cD) (F_drip : Fn P w K mg base "_law_drip" 1 C_drip) (F_same : Fn P w K mg base "_law_same" 3 (C_same 2)) (F_caught : Fn P w K mg base "_law_caught" 10 (C_caught cI cD)) : FnOk P w K mg base (L2.CX P w) 11 f fd ["_law_ink_here", "_law_picture"] (SpC K C_refused) := by
  refine def_ok F sc_refused (fun ss M Q E h => ?_) (fun X G eP ew eK em eb d ss M Q E h wi => ?_)
  · obtain ⟨p, n, b, sh, bl, l, rfl, ok, hI, hn, q⟩ := h; rfl
  subst eP ew eK em eb
  have dn := d.dn
  have n0 : nmB ["_law_ink_here", "_law_picture", "_law_book_here", "_law_letter", "_law_below", "_law_caught_here", "_law_other", "_law_bad"] (defScope s_refused) 0 "_law_ink_here" = true := by decide +kernel
  have n1 : nmB ["_law_ink_here", "_law_picture", "_law_book_here", "_law_letter", "_law_below", "_law_caught_here", "_law_other", "_law_bad"] (defScope s_refused) 1 "_law_picture" = true := by decide +kernel
  have n2 : nmB ["_law_ink_here", "_law_picture", "_law_book_here", "_law_letter", "_law_below", "_law_caught_here", "_law_other", "_law_bad"] (defScope s_refused) 2 "_law_book_here" = true := by decide +kernel
  have n3 : nmB ["_law_ink_here", "_law_picture", "_law_book_here", "_law_letter", "_law_below", "_law_caught_here", "_law_other", "_law_bad"] (defScope s_refused) 3 "_law_letter" = true := by decide +kernel
  have n4 : nmB ["_law_ink_here", "_law_picture", "_law_book_here", "_law_letter", "_law_below", "_law_caught_here", "_law_other", "_law_bad"] (defScope s_refused) 4 "_law_below" = true := by decide +kernel
  have n5 : nmB ["_law_ink_here", "_law_picture", "_law_book_here", "_law_letter", "_law_below", "_law_caught_here", "_law_other", "_law_bad"] (defScope s_refused) 5 "_law_caught_here" = true := by decide +kernel
  have n6 : nmB ["_law_ink_here", "_law_picture", "_law_book_here", "_law_letter", "_law_below", "_law_caught_here", "_law_other", "_law_bad"] (defScope s_refused) 6 "_law_other" = true := by decide +kernel
  have n7 : nmB ["_law_ink_here", "_law_picture", "_law_book_here", "_law_letter", "_law_below", "_law_caught_here", "_law_other", "_law_bad"] (defScope s_refused) 7 "_law_bad" = true := by decide +kernel
  have l2 : lcB ["_law_ink_here", "_law_picture", "_law_book_here", "_law_letter", "_law_below", "_law_caught_here", "_law_other", "_law_bad"] (defScope s_refused) 2 "_law_book_here" = true := by decide +kernel
  have l3 : lcB ["_law_ink_here", "_law_picture", "_law_book_here", "_law_letter", "_law_below", "_law_caught_here", "_law_other", "_law_bad"] (defScope s_refused) 3 "_law_letter" = true := by decide +kernel
  have l4 : lcB ["_law_ink_here", "_law_picture", "_law_book_here", "_law_letter", "_law_below", "_law_caught_here", "_law_other", "_law_bad"] (defScope s_refused) 4 "_law_below" = true := by decide +kernel
  have l5 : lcB ["_law_ink_here", "_law_picture", "_law_book_here", "_law_letter", "_law_below", "_law_caught_here", "_law_other", "_law_bad"] (defScope s_refused) 5 "_law_caught_here" = true := by decide +kernel
  have l6 : lcB ["_law_ink_here", "_law_picture", "_law_book_here", "_law_letter", "_law_below", "_law_caught_here", "_law_other", "_law_bad"] (defScope s_refused) 6 "_law_other" = true := by decide +kernel
  have l7 : lcB ["_law_ink_here", "_law_picture", "_law_book_here", "_law_letter", "_law_below", "_law_caught_here", "_law_other", "_law_bad"] (defScope s_refused) 7 "_law_bad" = true := by decide +kernel
  have g__law_drip : glB (defScope s_refused) "_law_drip" = true := by decide +kernel
  have g__law_caught : glB (defScope s_refused) "_law_caught" = true := by decide +kernel
  have g_isinstance : glB (defScope s_refused) "isinstance" = true := by decide +kernel
  have g_InvalidDepth : glB (defScope s_refused) "InvalidDepth" = true := by decide +kernel
  have g__law_same : glB (defScope s_refused) "_law_same" = true := by decide +kernel
  have g_list : glB (defScope s_refused) "list" = true := by decide +kernel
  have g_len : glB (defScope s_refused) "len" = true := by decide +kernel
  have g_InvalidPicture : glB (defScope s_refused) "InvalidPicture" = true := by decide +kernel
  have g_repr : glB (defScope s_refused) "repr" = true := by decide +kernel
  have t_isinstance := T.isinstance
  have t_len := T.len
  have t_list := T.list
  have t_repr := T.repr
  obtain ⟨p, n, b, sh, bl, l, rfl, ok, hI, hn, q⟩ := h
  conv => pattern (defBody _); whnf
  show SSs X G _ [some (.ptr p), some (picT b sh bl l), none, none, none, none, none, none] M _
  have e200 : (1000000 : Int) < 2 ^ 200 := by decide
  have b0 := ok.ok.b0
  have b1 := ok.ok.b1
  have s0 := Sx.of hI
  walk_at "s"
  walk_at "gt"
  show SG X G _ (.tup [bookT b sh bl, .int l]) _ _ _
  walk_at "tg"
  show SSs _ G _ [some (.ptr p), some (picT b sh bl l), some (bookT b sh bl), some (.int l), none, none, none, none] M _
  walk_at "s"
  walk_at "gt"
  refine ro_powI (k := 30) (a := 8) (by decide) (by decide) (by decide) ?_
  walk_at "gt"
  refine drip_go s0 (by omega) (by decide) (by decide) fun q1 M1 a1 d1 s1 => ?_
  walk_at "gx"
  refine fun u3 h3 => ?_
  generalize g3 : updM _ u3 _ = M3
  have s3 := s1.gen h3 g3
  walk_at "gt"
  refine drip_go s3 (by omega) (by omega) (by omega) fun q4 M4 a4 d4 s4 => ?_
  refine rx_mem (s4.at 0 rfl) a4 d4 fun z hz => ?_
  obtain ⟨bw, rfl, hbw⟩ : ∃ bw : Int, z = .int bw ∧ bw < 0 := by
    simp only [List.mem_cons, List.not_mem_nil, or_false] at hz
    rcases hz with rfl | rfl | rfl | rfl
    · exact ⟨_, rfl, by omega⟩
    · exact ⟨_, rfl, by omega⟩
    · exact ⟨_, rfl, by omega⟩
    · exact ⟨_, rfl, by omega⟩
  have s4 := s4.drop 1
  show SSs _ G _ [some (.ptr p), some (picT b sh bl l), some (bookT b sh bl), some (.int l), some (.int bw), none, none, none] M4 _
  walk_at "s"
  walk_at "gt"
  refine ⟨_, bw, rfl, Kn.pic M4 b sh bl l, .inl ⟨b, sh, bl, l, rfl, ok, hbw, ?_⟩⟩
  show SSs _ G _ [some (.ptr p), some (picT b sh bl l), some (bookT b sh bl), some (.int l), some (.int bw), some (.exn (.ref cD) (.int bw)), none, none] M4 _
  walk_at "s"
  walk_at "gt"
  refine se_glob (v := .ref cD) (gl_of dn g_InvalidDepth) KD.mg rfl (fun _ => .ptr cD) ?_
  walk_at "gt"
  refine rb_isE KD.ext KD.self (.own cD) (QB.mk ⟨fun c => (by cases c), fun _ => ?_⟩)
  walk_at "gt"
  refine se_value ?_ rfl
  walk_at "gt"
  refine ⟨cD, _, rfl, KD.ext, ?_⟩
  walk_at "gt"
  refine same_go (.int 2 _) (QB.mk ⟨fun c => (by cases c), fun _ => ?_⟩)
  refine sb_nil ?_
  unfold bookT
  walk_at "s"
  walk_at "gt"
  refine rb_list its_tup fun u5 h5 => ?_
  generalize g5 : updM _ u5 _ = M5
  have s5 := s4.gen h5 g5
  walk_at "gx"
  show SSs _ G _ [some (.ptr p), some (picT b sh bl l), some (.tup [.int b, .tup (sh.map S.int), .tup (bl.map blkT)]), some (.int l), some (.int bw), some (.exn (.ref cD) (.int bw)), some (.tup [.int b, .tup (sh.map S.int), .ptr u5]), none] M5 _
  walk_at "s"
  walk_at "gx"
  refine fun u6 h6 => ?_
  generalize g6 : updM _ u6 _ = M6
  have s6 := s5.gen h6 g6
  walk_at "gx"
  refine fun u7 h7 => ?_
  generalize g7 : updM _ u7 _ = M7
  have s7 := s6.gen h7 g7
  walk_at "gt"
  refine drip_go s7 (by omega) (by omega) (by omega) fun q8 M8 a8 d8 s8 => ?_
  refine rx_mem (s8.at 0 rfl) a8 d8 fun z hz => ?_
  have hbad : Bad M8 (fun a => a ≠ p) z := by
    have m6 := s8.at 1 rfl
    have m5 := s8.at 2 rfl
    have n6 : u6 ≠ p := (s8.has _ (List.mem_cons_of_mem _ List.mem_cons_self)).2.1
    have n5 : u5 ≠ p := (s8.has _ (List.mem_cons_of_mem _ (List.mem_cons_of_mem _ List.mem_cons_self))).2.1
    have l0 := ok.l0
    have l1 := ok.l1
    have L1 := ok.ok.l1
    have kb := Kn.book M8 b sh bl
    have db : DaE M8 (fun a => a ≠ p) 5 (bookT b sh bl) := .book ok.ok
    have w6 : 2 ≤ Wd 6 := by decide
    have k2 : ∀ {x y : S}, Kn M8 x → Kn M8 y → Kn M8 (.tup [x, y]) := fun {x y} hx hy => .tup fun s hs => by
      simp only [List.mem_cons, List.not_mem_nil, or_false] at hs
      rcases hs with rfl | rfl
      · exact hx
      · exact hy
    simp only [List.mem_cons, List.not_mem_nil, or_false] at hz
    rcases hz with rfl | rfl | rfl | rfl | rfl | rfl
    · refine ⟨k2 kb (.int _), ?_, 6, Nat.le_refl _, .tup (.pair db (by omega) (by rw [List.length_map]; omega)) w6⟩
      show ((isShelf (bookT b sh bl) && (decide ((0 : Int) ≤ ((sh.map S.int).length : Nat)) && decide ((((sh.map S.int).length : Nat) : Int) < ((sh.map S.int).length : Nat)))) && restB (bookT b sh bl)) = false
      rw [show decide ((((sh.map S.int).length : Nat) : Int) < ((sh.map S.int).length : Nat)) = false from decide_eq_false (by omega), Bool.and_false, Bool.and_false, Bool.false_and]
    · refine ⟨k2 kb (.int _), ?_, 6, Nat.le_refl _, .tup (.pair db (by omega) (by omega)) w6⟩
      show ((isShelf (bookT b sh bl) && (decide ((0 : Int) ≤ -1) && decide ((-1 : Int) < ((sh.map S.int).length : Nat)))) && restB (bookT b sh bl)) = false
      rw [show decide ((0 : Int) ≤ -1) = false from rfl, Bool.false_and, Bool.and_false, Bool.false_and]
    · exact ⟨.ptr m6, rfl, 6, Nat.le_refl _, .lst n6 m6 (.pair db (by omega) (by omega)) w6⟩
    · exact ⟨kb, rfl, 5, by decide, db⟩
    · refine ⟨k2 (.tup fun s hs => ?_) (.int _), rfl, 6, Nat.le_refl _, .tup (.pair (.like ok.ok (by omega) (by omega) (.lst n5 m5 (DaE.blks ok.ok) (by rw [List.length_map, ok.ok.lb]; exact L1))) (by omega) (by omega)) w6⟩
      simp only [List.mem_cons, List.not_mem_nil, or_false] at hs
      rcases hs with rfl | rfl | rfl
      · exact .int _
      · exact Kn.ints M8 sh
      · exact .ptr m5
    · exact ⟨.non, rfl, 1, by decide, _, .non _⟩
  have s8 := s8.drop 3
  have sz := Sx.of s8.ink
  show SSs _ G _ [some (.ptr p), some (picT b sh bl l), some (.tup [.int b, .tup (sh.map S.int), .tup (bl.map blkT)]), some (.int l), some (.int bw), some (.exn (.ref cD) (.int bw)), some (.tup [.int b, .tup (sh.map S.int), .ptr u5]), some z] M8 _
  walk_at "s"
  walk_at "gx"
  refine fun u9 h9 => ?_
  generalize g9 : updM _ u9 _ = M9
  have s9 := sz.gen h9 g9
  walk_at "gt"
  refine drip_go s9 (by omega) (by omega) (by omega) fun q10 M10 a10 d10 s10 => ?_
  refine rx_mem (s10.at 0 rfl) a10 d10 fun z2 hz2 => ?_
  obtain ⟨e2, rfl⟩ : ∃ e2 : Int, z2 = .int e2 := by
    simp only [List.mem_cons, List.not_mem_nil, or_false] at hz2
    rcases hz2 with rfl | rfl
    · exact ⟨_, rfl⟩
    · exact ⟨_, rfl⟩
  have hb10 : Bad M10 (fun a => a ≠ p) z := by
    obtain ⟨m, hm, hd⟩ := hbad.da
    exact ⟨hbad.kn.grow s10.gr s10.ink.ne, hbad.no, m, hm, hd.frame (fun a o ha h => s10.gr a o ha h) fun _ h => h⟩
  walk_at "gt"
  refine bad_go hb10 fun s' M11 dt nt A1 A2 hle hsub e1 e2 => ?_
  show SSs _ G _ [some (.ptr p), some (picT b sh bl l), some (.tup [.int b, .tup (sh.map S.int), .tup (bl.map blkT)]), some (.int l), some (.int bw), some (.exn (.ref cI) s'), some (.tup [.int b, .tup (sh.map S.int), .ptr u5]), some z] M11 _
  walk_at "s"
  walk_at "gt"
  refine se_glob (v := .ref cI) (gl_of dn g_InvalidPicture) KI.mg rfl (fun _ => .ptr cI) ?_
  walk_at "gt"
  refine rb_isE KI.ext KI.self (.own cI) ⟨_, rfl, fun _ => ?_, fun c => (by cases c)⟩
  walk_at "gt"
  refine se_value ?_ rfl
  walk_at "gt"
  refine ⟨cI, _, rfl, KI.ext, ?_⟩
  walk_at "gt"
  refine rb_repr dn e1 hle ?_
  walk_at "gt"
  refine rb_repr dn e2 hle ?_
  refine rc_eqStr ⟨M11, Sub.refl, q M11 ?_⟩
  exact (((s8.call (s10.drop 1)).sub hsub).sl (List.nil_sublist _)).up (by omega)
end

end Sy

set_option Elab.async false
set_option linter.all false
set_option maxRecDepth 100000
set_option maxHeartbeats 1000000
namespace Sy
open PySem PySem.Spec PyProof.Rows L2
local macro_rules | `(tactic| walk_at "nm") => `(tactic| ((with_reducible refine' dn_name ?d _ ?h ?he ?q); (case d => assumption); (case h => with_reducible assumption); (case he => rfl)))
local macro_rules | `(tactic| walk_at "cn") => `(tactic| first | with_reducible refine se_int ?_ | with_reducible refine se_bl ?_ | with_reducible refine se_non ?_ | with_reducible refine se_str ?_)
local macro_rules | `(tactic| walk_at "ct") => `(tactic| ((with_reducible refine' dn_callT ?d ?m ?v ?g ?n ?db ?st ?pl ?q); (case d => assumption); (case m => with_reducible assumption); (case v => first | with_reducible exact bt_int | with_reducible exact bt_tuple | with_reducible exact bt_list | with_reducible exact bt_str | with_reducible exact bt_bool); (case g => with_reducible assumption); (case n => decide); (case db => decide); (case st => rfl); (case pl => rfl)))
local macro_rules | `(tactic| walk_at "cb") => `(tactic| ((with_reducible refine' dn_callB ?d ?m ?v ?g ?n ?db ?st ?pl ?q); (case d => assumption); (case m => with_reducible assumption); (case v => first | with_reducible exact bf_len | with_reducible exact bf_isinstance | with_reducible exact bf_all | with_reducible exact bf_max | with_reducible exact bf_min | with_reducible exact bf_abs | with_reducible exact bf_sum | with_reducible exact bf_any | with_reducible exact bf_repr); (case g => with_reducible assumption); (case n => decide); (case db => decide); (case st => rfl); (case pl => rfl)))
local macro_rules | `(tactic| walk_at "cf") => `(tactic| ((with_reducible refine' dn_call ?d ?F ?g ?k ?db ?st ?pl ?q); (case d => assumption); (case F => with_reducible assumption); (case g => with_reducible assumption); (case k => decide); (case db => decide); (case st => rfl); (case pl => rfl)))
local macro_rules | `(tactic| walk_at "tv") => `(tactic| ((with_reducible refine' dn_ty ?d ?m ?v ?g ?n ?db ?q); (case d => assumption); (case m => with_reducible assumption); (case v => first | with_reducible exact bt_int | with_reducible exact bt_tuple | with_reducible exact bt_list | with_reducible exact bt_str | with_reducible exact bt_bool); (case g => with_reducible assumption); (case n => decide); (case db => decide)))
local macro_rules | `(tactic| walk_at "ck") => `(tactic| ((with_reducible refine' dn_kw ?d ?F ?g ?k ?db ?a ?ks ?pl ?q); (case d => assumption); (case F => with_reducible assumption); (case g => with_reducible assumption); (case k => decide); (case db => decide); (case a => rfl); (case ks => rfl); (case pl => rfl)))
local macro_rules | `(tactic| walk_at "e") => `(tactic| first | walk_at "nm" | walk_at "cn" | with_reducible refine se_bin ?_ | ((with_reducible refine' se_cmp ?q ?st); (case st => first | exact nomark _ | rfl)) | ((with_reducible refine' se_ix ?q ?st); (case st => exact fun _ _ => rfl)) | with_reducible refine sa_nil ?_ | ((with_reducible refine' sa_cons ?q ?st); (case st => rfl)) | walk_at "cf" | walk_at "ck" | with_reducible refine sk_nil ?_ | with_reducible refine sk_cons ?_ | walk_at "cb" | walk_at "ct" | walk_at "tv" | with_reducible refine se_one ?_ | ((with_reducible refine' se_chain ?q ?st); (case st => with_unfolding_all rfl)) | with_reducible refine se_tup ?_ | with_reducible refine se_lst ?_ | with_reducible refine se_and ?_ | with_reducible refine se_or ?_ | with_reducible refine se_not ?_ | with_reducible refine se_un ?_ )
local macro_rules | `(tactic| walk_at "v") => `(tactic| first | with_reducible refine ro_addI ?_ | with_reducible refine rc_isIB ?_ | with_reducible refine rc_eqB ?_ | with_reducible refine rc_neB ?_ | with_reducible refine rc_isN ?_ | with_reducible refine rc_notN ?_ | with_reducible refine ro_subI ?_ | with_reducible refine rc_eqI ?_ | with_reducible refine rc_neI ?_ | with_reducible refine rc_ltI ?_ | with_reducible refine rc_leI ?_ | with_reducible refine rc_gtI ?_ | with_reducible refine rc_geI ?_ | with_reducible refine rb_intI ?_ | with_reducible refine ru_neg ?_ | with_reducible refine rb_tupleT ?_ | ((with_reducible refine rb_isInt ?h ?q); (case h => assumption)) | ((with_reducible refine rb_isBool ?h ?q); (case h => assumption)) | ((with_reducible refine rb_isTup ?h ?q); (case h => assumption)) | with_reducible refine rb_len its_tup ?_ | (refine rx_tup (by rfl) ?_) | ((with_reducible refine' rx_lst ?h ?a ?q); (case h => with_reducible assumption); (case a => rfl)))
local macro_rules | `(tactic| walk_at "ss") => `(tactic| first | with_reducible refine ss_ret (se_fg ?_) | with_reducible refine ss_if ?_ | ((with_reducible refine' ss_expr ?q ?st); (case st => rfl)) | ((with_reducible refine' dx_set ?d _ ?h ?hs ?q); (case d => assumption); (case h => with_reducible assumption); (case hs => rfl)) | ((with_reducible refine' ss_asg (tg := .Tuple _ _ _) ?q ?hs ?hw ?h1); (case hs => rfl); (case hw => rfl); (case h1 => rfl)))
local macro_rules | `(tactic| walk_at "s") => `(tactic| first | with_reducible refine sb_one ?_ | with_reducible refine sb_cons ?_ | walk_at "ss")
local macro_rules | `(tactic| walk_at "t") => `(tactic| first | with_reducible refine st_not ?_ | ((with_reducible refine' st_cmp ?q ?st); (case st => first | exact nomark _ | rfl)) | with_reducible refine sw_and1 ?_ | with_reducible refine sw_or1 ?_ | with_reducible refine sw_or ?_ | with_reducible refine sw_and ?_ | ((with_reducible refine' st_chain ?q ?st); (case st => with_unfolding_all rfl)) | (refine st_of ?_; first | with_reducible refine sw_or ?_ | with_reducible refine sw_and ?_) | ((with_reducible refine' st_val ?q ?st); (case st => intro _; rfl)))
local macro_rules | `(tactic| walk_at "go") => `(tactic| repeat (first | walk_at "e" | walk_at "v" | walk_at "s" | walk_at "t"))
local macro_rules | `(tactic| walk_at "gt") => `(tactic| repeat (first | walk_at "e" | walk_at "v" | walk_at "ss" | walk_at "t"))
local macro_rules | `(tactic| walk_at "gx") => `(tactic| repeat (first | walk_at "e" | walk_at "v" | walk_at "ss" | walk_at "t" | refine ⟨by simp only [List.length_cons, List.length_nil]; decide, ?_⟩))
local macro_rules | `(tactic| walk_at "tg") => `(tactic| repeat (first | ((with_reducible refine' sg_tup ?q ?hc ?hn ?st); (case hc => exact DX.calm (by assumption)); (case hn => rfl); (case st => rfl)) | (refine sgs_cons ?_) | with_reducible refine sgs_nil ?_ | ((refine dx_tgt (by assumption) _ (by with_reducible assumption) ?_))))
def C_inner_right : Con := C_refused
section
variable {P : Program} {w : World} {K : PySem.W.Frag} {mg : Str → Option Value} {base : Heap} {cI cD cS fI fD : Addr}
theorem sc_inner_right : FnScope ["_law_ink_here", "_law_picture", "_law_book_here", "_law_letter", "_law_base", "_law_shades_here", "_law_blocks", "_law_at", "_law_i", "_law_j", "_law_wrong", "_law_line", "_law_row", "_law_block_here", "_law_bad", "_law_caught_here", "_law_other"] ["_law_ink_here", "_law_picture"] (defScope s_inner_right) := ⟨rfl, rfl, rfl, by decide +kernel, rfl, by decide +kernel, by decide +kernel⟩
theorem ok_inner_right {f : Addr} {fd : FuncData} (F : Fun K "_law_inner_right" "_law_inner_right" s_inner_right f fd) (T : Txt mg) (KI : Cls K mg cS "InvalidPicture" cI) (F_drip : Fn P w K mg base "_law_drip" 1 C_drip) (F_caught : Fn P w K mg base "_law_caught" 10 (C_caught cI cD)) : FnOk P w K mg base (L2.CX P w) 11 f fd ["_law_ink_here", "_law_picture"] (SpC K C_inner_right) := by
  refine def_ok F sc_inner_right (fun ss M Q E h => ?_) (fun X G eP ew eK em eb d ss M Q E h wi => ?_)
  · obtain ⟨p, n, b, sh, bl, l, rfl, ok, hI, hn, q⟩ := h; rfl
  subst eP ew eK em eb
  have dn := d.dn
  have n0 : nmB ["_law_ink_here", "_law_picture", "_law_book_here", "_law_letter", "_law_base", "_law_shades_here", "_law_blocks", "_law_at", "_law_i", "_law_j", "_law_wrong", "_law_line", "_law_row", "_law_block_here", "_law_bad", "_law_caught_here", "_law_other"] (defScope s_inner_right) 0 "_law_ink_here" = true := by decide +kernel
  have n1 : nmB ["_law_ink_here", "_law_picture", "_law_book_here", "_law_letter", "_law_base", "_law_shades_here", "_law_blocks", "_law_at", "_law_i", "_law_j", "_law_wrong", "_law_line", "_law_row", "_law_block_here", "_law_bad", "_law_caught_here", "_law_other"] (defScope s_inner_right) 1 "_law_picture" = true := by decide +kernel
  have n2 : nmB ["_law_ink_here", "_law_picture", "_law_book_here", "_law_letter", "_law_base", "_law_shades_here", "_law_blocks", "_law_at", "_law_i", "_law_j", "_law_wrong", "_law_line", "_law_row", "_law_block_here", "_law_bad", "_law_caught_here", "_law_other"] (defScope s_inner_right) 2 "_law_book_here" = true := by decide +kernel
  have n3 : nmB ["_law_ink_here", "_law_picture", "_law_book_here", "_law_letter", "_law_base", "_law_shades_here", "_law_blocks", "_law_at", "_law_i", "_law_j", "_law_wrong", "_law_line", "_law_row", "_law_block_here", "_law_bad", "_law_caught_here", "_law_other"] (defScope s_inner_right) 3 "_law_letter" = true := by decide +kernel
  have n4 : nmB ["_law_ink_here", "_law_picture", "_law_book_here", "_law_letter", "_law_base", "_law_shades_here", "_law_blocks", "_law_at", "_law_i", "_law_j", "_law_wrong", "_law_line", "_law_row", "_law_block_here", "_law_bad", "_law_caught_here", "_law_other"] (defScope s_inner_right) 4 "_law_base" = true := by decide +kernel
  have n5 : nmB ["_law_ink_here", "_law_picture", "_law_book_here", "_law_letter", "_law_base", "_law_shades_here", "_law_blocks", "_law_at", "_law_i", "_law_j", "_law_wrong", "_law_line", "_law_row", "_law_block_here", "_law_bad", "_law_caught_here", "_law_other"] (defScope s_inner_right) 5 "_law_shades_here" = true := by decide +kernel
  have n6 : nmB ["_law_ink_here", "_law_picture", "_law_book_here", "_law_letter", "_law_base", "_law_shades_here", "_law_blocks", "_law_at", "_law_i", "_law_j", "_law_wrong", "_law_line", "_law_row", "_law_block_here", "_law_bad", "_law_caught_here", "_law_other"] (defScope s_inner_right) 6 "_law_blocks" = true := by decide +kernel
  have n7 : nmB ["_law_ink_here", "_law_picture", "_law_book_here", "_law_letter", "_law_base", "_law_shades_here", "_law_blocks", "_law_at", "_law_i", "_law_j", "_law_wrong", "_law_line", "_law_row", "_law_block_here", "_law_bad", "_law_caught_here", "_law_other"] (defScope s_inner_right) 7 "_law_at" = true := by decide +kernel
  have n8 : nmB ["_law_ink_here", "_law_picture", "_law_book_here", "_law_letter", "_law_base", "_law_shades_here", "_law_blocks", "_law_at", "_law_i", "_law_j", "_law_wrong", "_law_line", "_law_row", "_law_block_here", "_law_bad", "_law_caught_here", "_law_other"] (defScope s_inner_right) 8 "_law_i" = true := by decide +kernel
  have n9 : nmB ["_law_ink_here", "_law_picture", "_law_book_here", "_law_letter", "_law_base", "_law_shades_here", "_law_blocks", "_law_at", "_law_i", "_law_j", "_law_wrong", "_law_line", "_law_row", "_law_block_here", "_law_bad", "_law_caught_here", "_law_other"] (defScope s_inner_right) 9 "_law_j" = true := by decide +kernel
  have n10 : nmB ["_law_ink_here", "_law_picture", "_law_book_here", "_law_letter", "_law_base", "_law_shades_here", "_law_blocks", "_law_at", "_law_i", "_law_j", "_law_wrong", "_law_line", "_law_row", "_law_block_here", "_law_bad", "_law_caught_here", "_law_other"] (defScope s_inner_right) 10 "_law_wrong" = true := by decide +kernel
  have n11 : nmB ["_law_ink_here", "_law_picture", "_law_book_here", "_law_letter", "_law_base", "_law_shades_here", "_law_blocks", "_law_at", "_law_i", "_law_j", "_law_wrong", "_law_line", "_law_row", "_law_block_here", "_law_bad", "_law_caught_here", "_law_other"] (defScope s_inner_right) 11 "_law_line" = true := by decide +kernel
  have n12 : nmB ["_law_ink_here", "_law_picture", "_law_book_here", "_law_letter", "_law_base", "_law_shades_here", "_law_blocks", "_law_at", "_law_i", "_law_j", "_law_wrong", "_law_line", "_law_row", "_law_block_here", "_law_bad", "_law_caught_here", "_law_other"] (defScope s_inner_right) 12 "_law_row" = true := by decide +kernel
  have n13 : nmB ["_law_ink_here", "_law_picture", "_law_book_here", "_law_letter", "_law_base", "_law_shades_here", "_law_blocks", "_law_at", "_law_i", "_law_j", "_law_wrong", "_law_line", "_law_row", "_law_block_here", "_law_bad", "_law_caught_here", "_law_other"] (defScope s_inner_right) 13 "_law_block_here" = true := by decide +kernel
  have n14 : nmB ["_law_ink_here", "_law_picture", "_law_book_here", "_law_letter", "_law_base", "_law_shades_here", "_law_blocks", "_law_at", "_law_i", "_law_j", "_law_wrong", "_law_line", "_law_row", "_law_block_here", "_law_bad", "_law_caught_here", "_law_other"] (defScope s_inner_right) 14 "_law_bad" = true := by decide +kernel
  have n15 : nmB ["_law_ink_here", "_law_picture", "_law_book_here", "_law_letter", "_law_base", "_law_shades_here", "_law_blocks", "_law_at", "_law_i", "_law_j", "_law_wrong", "_law_line", "_law_row", "_law_block_here", "_law_bad", "_law_caught_here", "_law_other"] (defScope s_inner_right) 15 "_law_caught_here" = true := by decide +kernel
  have n16 : nmB ["_law_ink_here", "_law_picture", "_law_book_here", "_law_letter", "_law_base", "_law_shades_here", "_law_blocks", "_law_at", "_law_i", "_law_j", "_law_wrong", "_law_line", "_law_row", "_law_block_here", "_law_bad", "_law_caught_here", "_law_other"] (defScope s_inner_right) 16 "_law_other" = true := by decide +kernel
  have l2 : lcB ["_law_ink_here", "_law_picture", "_law_book_here", "_law_letter", "_law_base", "_law_shades_here", "_law_blocks", "_law_at", "_law_i", "_law_j", "_law_wrong", "_law_line", "_law_row", "_law_block_here", "_law_bad", "_law_caught_here", "_law_other"] (defScope s_inner_right) 2 "_law_book_here" = true := by decide +kernel
  have l3 : lcB ["_law_ink_here", "_law_picture", "_law_book_here", "_law_letter", "_law_base", "_law_shades_here", "_law_blocks", "_law_at", "_law_i", "_law_j", "_law_wrong", "_law_line", "_law_row", "_law_block_here", "_law_bad", "_law_caught_here", "_law_other"] (defScope s_inner_right) 3 "_law_letter" = true := by decide +kernel
  have l4 : lcB ["_law_ink_here", "_law_picture", "_law_book_here", "_law_letter", "_law_base", "_law_shades_here", "_law_blocks", "_law_at", "_law_i", "_law_j", "_law_wrong", "_law_line", "_law_row", "_law_block_here", "_law_bad", "_law_caught_here", "_law_other"] (defScope s_inner_right) 4 "_law_base" = true := by decide +kernel
  have l5 : lcB ["_law_ink_here", "_law_picture", "_law_book_here", "_law_letter", "_law_base", "_law_shades_here", "_law_blocks", "_law_at", "_law_i", "_law_j", "_law_wrong", "_law_line", "_law_row", "_law_block_here", "_law_bad", "_law_caught_here", "_law_other"] (defScope s_inner_right) 5 "_law_shades_here" = true := by decide +kernel
  have l6 : lcB ["_law_ink_here", "_law_picture", "_law_book_here", "_law_letter", "_law_base", "_law_shades_here", "_law_blocks", "_law_at", "_law_i", "_law_j", "_law_wrong", "_law_line", "_law_row", "_law_block_here", "_law_bad", "_law_caught_here", "_law_other"] (defScope s_inner_right) 6 "_law_blocks" = true := by decide +kernel
  have l7 : lcB ["_law_ink_here", "_law_picture", "_law_book_here", "_law_letter", "_law_base", "_law_shades_here", "_law_blocks", "_law_at", "_law_i", "_law_j", "_law_wrong", "_law_line", "_law_row", "_law_block_here", "_law_bad", "_law_caught_here", "_law_other"] (defScope s_inner_right) 7 "_law_at" = true := by decide +kernel
  have l8 : lcB ["_law_ink_here", "_law_picture", "_law_book_here", "_law_letter", "_law_base", "_law_shades_here", "_law_blocks", "_law_at", "_law_i", "_law_j", "_law_wrong", "_law_line", "_law_row", "_law_block_here", "_law_bad", "_law_caught_here", "_law_other"] (defScope s_inner_right) 8 "_law_i" = true := by decide +kernel
  have l9 : lcB ["_law_ink_here", "_law_picture", "_law_book_here", "_law_letter", "_law_base", "_law_shades_here", "_law_blocks", "_law_at", "_law_i", "_law_j", "_law_wrong", "_law_line", "_law_row", "_law_block_here", "_law_bad", "_law_caught_here", "_law_other"] (defScope s_inner_right) 9 "_law_j" = true := by decide +kernel
  have l10 : lcB ["_law_ink_here", "_law_picture", "_law_book_here", "_law_letter", "_law_base", "_law_shades_here", "_law_blocks", "_law_at", "_law_i", "_law_j", "_law_wrong", "_law_line", "_law_row", "_law_block_here", "_law_bad", "_law_caught_here", "_law_other"] (defScope s_inner_right) 10 "_law_wrong" = true := by decide +kernel
  have l11 : lcB ["_law_ink_here", "_law_picture", "_law_book_here", "_law_letter", "_law_base", "_law_shades_here", "_law_blocks", "_law_at", "_law_i", "_law_j", "_law_wrong", "_law_line", "_law_row", "_law_block_here", "_law_bad", "_law_caught_here", "_law_other"] (defScope s_inner_right) 11 "_law_line" = true := by decide +kernel
  have l12 : lcB ["_law_ink_here", "_law_picture", "_law_book_here", "_law_letter", "_law_base", "_law_shades_here", "_law_blocks", "_law_at", "_law_i", "_law_j", "_law_wrong", "_law_line", "_law_row", "_law_block_here", "_law_bad", "_law_caught_here", "_law_other"] (defScope s_inner_right) 12 "_law_row" = true := by decide +kernel
  have l13 : lcB ["_law_ink_here", "_law_picture", "_law_book_here", "_law_letter", "_law_base", "_law_shades_here", "_law_blocks", "_law_at", "_law_i", "_law_j", "_law_wrong", "_law_line", "_law_row", "_law_block_here", "_law_bad", "_law_caught_here", "_law_other"] (defScope s_inner_right) 13 "_law_block_here" = true := by decide +kernel
  have l14 : lcB ["_law_ink_here", "_law_picture", "_law_book_here", "_law_letter", "_law_base", "_law_shades_here", "_law_blocks", "_law_at", "_law_i", "_law_j", "_law_wrong", "_law_line", "_law_row", "_law_block_here", "_law_bad", "_law_caught_here", "_law_other"] (defScope s_inner_right) 14 "_law_bad" = true := by decide +kernel
  have l15 : lcB ["_law_ink_here", "_law_picture", "_law_book_here", "_law_letter", "_law_base", "_law_shades_here", "_law_blocks", "_law_at", "_law_i", "_law_j", "_law_wrong", "_law_line", "_law_row", "_law_block_here", "_law_bad", "_law_caught_here", "_law_other"] (defScope s_inner_right) 15 "_law_caught_here" = true := by decide +kernel
  have l16 : lcB ["_law_ink_here", "_law_picture", "_law_book_here", "_law_letter", "_law_base", "_law_shades_here", "_law_blocks", "_law_at", "_law_i", "_law_j", "_law_wrong", "_law_line", "_law_row", "_law_block_here", "_law_bad", "_law_caught_here", "_law_other"] (defScope s_inner_right) 16 "_law_other" = true := by decide +kernel
  have g__law_drip : glB (defScope s_inner_right) "_law_drip" = true := by decide +kernel
  have g_len : glB (defScope s_inner_right) "len" = true := by decide +kernel
  have g_list : glB (defScope s_inner_right) "list" = true := by decide +kernel
  have g__law_caught : glB (defScope s_inner_right) "_law_caught" = true := by decide +kernel
  have g_isinstance : glB (defScope s_inner_right) "isinstance" = true := by decide +kernel
  have g_InvalidPicture : glB (defScope s_inner_right) "InvalidPicture" = true := by decide +kernel
  have g_repr : glB (defScope s_inner_right) "repr" = true := by decide +kernel
  have g_int : glB (defScope s_inner_right) "int" = true := by decide +kernel
  have t_int := T.int
  have t_isinstance := T.isinstance
  have t_len := T.len
  have t_list := T.list
  have t_repr := T.repr
  obtain ⟨p, n, b, sh, bl, l, rfl, ok, hI, hn, q⟩ := h
  conv => pattern (defBody _); whnf
  show SSs X G _ [some (.ptr p), some (picT b sh bl l), none, none, none, none, none, none, none, none, none, none, none, none, none, none, none] M _
  have e200 : (1000000 : Int) < 2 ^ 200 := by decide
  have b0 := ok.ok.b0
  have b1 := ok.ok.b1
  have L0 := ok.ok.l0
  have L1 := ok.ok.l1
  have lb := ok.ok.lb
  have s0 := Sx.of hI
  walk_at "s"
  walk_at "gt"
  show SG X G _ (.tup [.tup [.int b, .tup (sh.map S.int), .tup (bl.map blkT)], .int l]) _ _ _
  walk_at "tg"
  show SSs _ G _ [some (.ptr p), some (picT b sh bl l), some (.tup [.int b, .tup (sh.map S.int), .tup (bl.map blkT)]), some (.int l), none, none, none, none, none, none, none, none, none, none, none, none, none] M _
  walk_at "s"
  walk_at "gt"
  walk_at "tg"
  show SSs _ G _ [some (.ptr p), some (picT b sh bl l), some (.tup [.int b, .tup (sh.map S.int), .tup (bl.map blkT)]), some (.int l), some (.int b), some (.tup (sh.map S.int)), some (.tup (bl.map blkT)), none, none, none, none, none, none, none, none, none, none] M _
  refine sb_cons ?_
  refine dx_par3 d 7 8 9 (by decide +kernel) (by decide +kernel) (by decide +kernel) (by decide) (by decide) (by decide) (by unfold swappedStores; simp only [Env.blockKind, Env.kindOf, d.sc]; rfl) rfl ?_
  walk_at "gt"
  rw [List.length_map]
  refine drip_go s0 (by omega) (by omega) (by omega) fun q1 M1 a1 d1 s1 => ?_
  walk_at "gt"
  refine drip_go s1 (by omega) (by omega) (by omega) fun q2 M2 a2 d2 s2 => ?_
  walk_at "gt"
  refine drip_go s2 (by omega) (by omega) (by omega) fun q3 M3 a3 d3 s3 => ?_
  walk_at "gt"
  refine ⟨_, _, _, rfl, ?_⟩
  show SSs _ G _ [some (.ptr p), some (picT b sh bl l), some (.tup [.int b, .tup (sh.map S.int), .tup (bl.map blkT)]), some (.int l), some (.int b), some (.tup (sh.map S.int)), some (.tup (bl.map blkT)), some (.int q1), some (.int q2), some (.int q3), none, none, none, none, none, none, none] M3 _
  walk_at "s"
  walk_at "gx"
  refine fun u4 h4 => sa_nil ⟨by simp only [List.length_cons, List.length_nil]; decide, fun u5 h5 => ?_⟩
  generalize g4 : updM M3 u4 _ = M4 at h5 ⊢
  have s4 := s3.gen h4 g4
  generalize g5 : updM M4 u5 _ = M5
  have s5 := s4.gen h5 g5
  walk_at "gt"
  refine drip_go s5 (by omega) (by omega) (by omega) fun q6 M6 a6 d6 s6 => ?_
  refine rx_mem (s6.at 0 rfl) a6 d6 fun wz hwz => ?_
  obtain ⟨wlet, wkn, wda⟩ : isLet sh.length wz = false ∧ Kn M6 wz ∧ DaE M6 (fun a => a ≠ p) 1 wz := by
    have m4 := s6.at 1 rfl
    have n4 : u4 ≠ p := (s6.has _ (List.mem_cons_of_mem _ List.mem_cons_self)).2.1
    have := e12
    simp only [List.mem_cons, List.not_mem_nil, or_false] at hwz
    rcases hwz with rfl | rfl | rfl | rfl | rfl | rfl
    · refine ⟨?_, .int _, .int (by rw [List.length_map]; omega)⟩
      show (decide ((0 : Int) ≤ ((sh.map S.int).length : Nat)) && decide ((((sh.map S.int).length : Nat) : Int) < (sh.length : Nat))) = false
      rw [List.length_map, show decide ((sh.length : Int) < (sh.length : Nat)) = false from decide_eq_false (by omega), Bool.and_false]
    · exact ⟨rfl, .int _, .int (by decide)⟩
    · exact ⟨rfl, .bl _, _, .bl _ _⟩
    · exact ⟨rfl, .non, _, .non _⟩
    · exact ⟨rfl, .str _, _, .str _ _ (by decide +kernel)⟩
    · refine ⟨rfl, .ptr m4, .lst n4 m4 (fun s hs => ?_) (by decide)⟩
      rw [List.mem_singleton.mp hs]
      exact .int (by decide)
  have s6 := s6.drop 2
  have hq1 : q1.toNat < bl.length := by omega
  obtain ⟨B, hB⟩ : ∃ B, bl[q1.toNat]? = some B := ⟨_, List.getElem?_eq_getElem hq1⟩
  have hBm := List.mem_of_getElem? hB
  obtain ⟨hB1, hB2⟩ := ok.ok.hb B hBm
  have hq2 : q2.toNat < B.length := by omega
  obtain ⟨r, hr⟩ : ∃ r, B[q2.toNat]? = some r := ⟨_, List.getElem?_eq_getElem hq2⟩
  have hrm := List.mem_of_getElem? hr
  obtain ⟨hr1, hr2⟩ := hB2 r hrm
  show SSs _ G _ [some (.ptr p), some (picT b sh bl l), some (.tup [.int b, .tup (sh.map S.int), .tup (bl.map blkT)]), some (.int l), some (.int b), some (.tup (sh.map S.int)), some (.tup (bl.map blkT)), some (.int q1), some (.int q2), some (.int q3), some wz, none, none, none, none, none, none] M6 _
  walk_at "s"
  walk_at "gt"
  refine rx_tup (at_in a1 (by rw [List.getElem?_map, hB]; rfl)) ?_
  walk_at "gt"
  refine rx_tup (s := .tup (r.map S.int)) (at_in a2 (by rw [List.getElem?_map, hr]; rfl)) ?_
  show SSs _ G _ [some (.ptr p), some (picT b sh bl l), some (.tup [.int b, .tup (sh.map S.int), .tup (bl.map blkT)]), some (.int l), some (.int b), some (.tup (sh.map S.int)), some (.tup (bl.map blkT)), some (.int q1), some (.int q2), some (.int q3), some wz, some (.tup (r.map S.int)), none, none, none, none, none] M6 _
  refine sb_cons ?_
  refine dx_for d (fun _ => rfl) ?_
  refine si_lst ?_
  have hz : (sizeLine : Nat) = 16777216 := sizeLine_eq
  have ek : ((q3.toNat : Nat) : Int) = q3 := by omega
  walk_at "gx"
  refine se_cutT ?_
  walk_at "gx"
  refine .none ?_
  refine .some ?_
  walk_at "gx"
  refine ⟨_, rfl, ?_⟩
  refine ⟨_, rfl, ?_⟩
  walk_at "gx"
  have c1 : cutS (r.map S.int) none (some q3) = (r.map S.int).take q3.toNat := by rw [← ek]; exact cut_to _ _
  rw [c1]
  refine ro_catT (by rw [List.length_take, List.length_map]; simp only [List.length_cons, List.length_nil]; omega) ?_
  refine se_cutT ?_
  walk_at "gx"
  refine .some ?_
  walk_at "gx"
  refine ⟨_, rfl, ?_⟩
  refine .none ?_
  refine ⟨_, rfl, ?_⟩
  have c2 : cutS (r.map S.int) (some (q3 + 1)) none = (r.map S.int).drop (q3.toNat + 1) := by
    rw [show q3 + 1 = ((q3.toNat + 1 : Nat) : Int) by omega]
    exact cut_from _ _
  rw [c2]
  refine ro_catT (by rw [List.length_append, List.length_take, List.length_drop, List.length_map]; simp only [List.length_cons, List.length_nil]; omega) ?_
  walk_at "gx"
  refine rb_list its_tup fun u7 h7 => ?_
  generalize g7 : updM M6 u7 _ = M7
  have s7 := s6.gen h7 g7
  walk_at "gx"
  refine se_cutT ?_
  walk_at "gx"
  refine .some ?_
  walk_at "gx"
  refine ⟨_, rfl, ?_⟩
  refine .none ?_
  refine ⟨_, rfl, ?_⟩
  have c3 : cutS (r.map S.int) (some 1) none = (r.map S.int).drop 1 := cut_from _ 1
  rw [c3]
  walk_at "gx"
  refine se_cutT ?_
  walk_at "gx"
  refine .none ?_
  refine .some ?_
  walk_at "gx"
  refine ⟨_, rfl, ?_⟩
  refine ⟨_, rfl, ?_⟩
  have c4 : cutS (r.map S.int) none (some 1) = (r.map S.int).take 1 := cut_to _ 1
  rw [c4]
  refine ro_catT (by rw [List.length_take, List.length_map]; omega) ?_
  walk_at "gx"
  refine fun u8 h8 => ?_
  have sub67 : Sub M6 M7 := by rw [← g7]; exact Sub.new h7
  have sub78 : Sub M7 (updM M7 u8 (.lst [.tup ((r.map S.int).take q3.toNat ++ [wz] ++ (r.map S.int).drop (q3.toNat + 1)), .ptr u7, .tup ((r.map S.int).drop 1), .tup (r.map S.int ++ (r.map S.int).take 1)])) := Sub.new h8
  generalize g8 : updM M7 u8 _ = M8 at sub78
  have s8 := s7.gen h8 g8
  have sub68 := sub67.trans sub78
  have n7 : u7 ≠ p := (s7.has _ List.mem_cons_self).2.1
  have m7 := s8.at 1 rfl
  have rlen : r.length ≤ 4 := by omega
  have kin : ∀ s, s ∈ r.map S.int → Kn M8 s ∧ DaE M8 (fun a => a ≠ p) 1 s := fun s hs => by
    obtain ⟨x, hx, rfl⟩ := List.mem_map.mp hs
    have := hr2 x hx
    have := e12
    exact ⟨.int _, .int (by omega)⟩
  have wkn8 : Kn M8 wz := wkn.grow (Grow.of sub68) s8.ink.ne
  have wda8 : DaE M8 (fun a => a ≠ p) 1 wz := wda.frame (fun a o _ h => sub68 a o h) fun _ h => h
  have w2 : 5 ≤ Wd 2 := wd_5 _
  have tupI : ∀ xs : List S, (∀ s, s ∈ xs → s = wz ∨ s ∈ r.map S.int) → xs.length ≤ 5 → Kn M8 (.tup xs) ∧ DaE M8 (fun a => a ≠ p) 2 (.tup xs) := fun xs hx hl => by
    refine ⟨.tup fun s hs => ?_, .tup (fun s hs => ?_) (Nat.le_trans hl w2)⟩
    · rcases hx s hs with rfl | h
      · exact wkn8
      · exact (kin s h).1
    · rcases hx s hs with rfl | h
      · exact wda8
      · exact (kin s h).2
  obtain ⟨rws, m8, hrows⟩ : ∃ rws, M8 u8 = some (.lst rws) ∧ ∀ z, z ∈ rws → isRow b sh.length z = false ∧ Kn M8 z ∧ DaE M8 (fun a => a ≠ p) 2 z := by
    refine ⟨_, s8.at 0 rfl, fun z hz => ?_⟩
    simp only [List.mem_cons, List.not_mem_nil, or_false] at hz
    rcases hz with rfl | rfl | rfl | rfl
    · refine ⟨?_, tupI _ (fun s hs => ?_) ?_⟩
      · show (_ && List.all _ _) = false
        rw [List.all_eq_false.mpr ⟨wz, by simp, by rw [wlet]; simp⟩, Bool.and_false]
      · rw [List.mem_append, List.mem_append, List.mem_singleton] at hs
        rcases hs with (h | h) | h
        · exact .inr (List.mem_of_mem_take h)
        · exact .inl h
        · exact .inr (List.mem_of_mem_drop h)
      · rw [List.length_append, List.length_append, List.length_take, List.length_drop, List.length_map]
        simp only [List.length_cons, List.length_nil]
        omega
    · exact ⟨rfl, .ptr m7, .lst n7 m7 (fun s hs => (kin s hs).2) (Nat.le_trans (by rw [List.length_map]; omega) w2)⟩
    · refine ⟨?_, tupI _ (fun s hs => .inr (List.mem_of_mem_drop hs)) (by rw [List.length_drop, List.length_map]; omega)⟩
      show (decide ((((r.map S.int).drop 1).length : Int) = b) && _) = false
      rw [decide_eq_false (by rw [List.length_drop, List.length_map]; omega), Bool.false_and]
    · refine ⟨?_, tupI _ (fun s hs => ?_) (by rw [List.length_append, List.length_take, List.length_map]; omega)⟩
      · show (decide (((r.map S.int ++ (r.map S.int).take 1).length : Int) = b) && _) = false
        rw [decide_eq_false (by rw [List.length_append, List.length_take, List.length_map]; omega), Bool.false_and]
      · rcases List.mem_append.mp hs with h | h
        · exact .inr h
        · exact .inr (List.mem_of_mem_take h)
  have c5 : cutS (B.map rowT) none (some q2) = (B.map rowT).take q2.toNat := by rw [show q2 = ((q2.toNat : Nat) : Int) by omega]; exact cut_to _ _
  have c6 : cutS (B.map rowT) (some (q2 + 1)) none = (B.map rowT).drop (q2.toNat + 1) := by rw [show q2 + 1 = ((q2.toNat + 1 : Nat) : Int) by omega]; exact cut_from _ _
  have c7 : cutS (bl.map blkT) none (some q1) = (bl.map blkT).take q1.toNat := by rw [show q1 = ((q1.toNat : Nat) : Int) by omega]; exact cut_to _ _
  have c8 : cutS (bl.map blkT) (some (q1 + 1)) none = (bl.map blkT).drop (q1.toNat + 1) := by rw [show q1 + 1 = ((q1.toNat + 1 : Nat) : Int) by omega]; exact cut_from _ _
  refine ⟨u8, rws, rfl, m8, ?_⟩
  refine ⟨fun i v' M' => Sub M8 M' ∧ ∃ (y1 y2 y3 y4 y5 : Option S), v' = [some (.ptr p), some (picT b sh bl l), some (.tup [.int b, .tup (sh.map S.int), .tup (bl.map blkT)]), some (.int l), some (.int b), some (.tup (sh.map S.int)), some (.tup (bl.map blkT)), some (.int q1), some (.int q2), some (.int q3), some wz, some (.tup (r.map S.int)), y1, y2, y3, y4, y5], ⟨Sub.refl, none, none, none, none, none, rfl⟩, fun i v' M' hI => hI.1 _ _ m8, ?_, ?_⟩
  · rintro i z v' M' es ⟨sm, y1, y2, y3, y4, y5, rfl⟩
    obtain ⟨zr, zk, zd⟩ := hrows z (List.mem_of_getElem? es)
    refine dx_tgt d 12 l12 ?_
    show SSs _ G _ [some (.ptr p), some (picT b sh bl l), some (.tup [.int b, .tup (sh.map S.int), .tup (bl.map blkT)]), some (.int l), some (.int b), some (.tup (sh.map S.int)), some (.tup (bl.map blkT)), some (.int q1), some (.int q2), some (.int q3), some wz, some (.tup (r.map S.int)), some z, y2, y3, y4, y5] M' _
    walk_at "s"
    walk_at "gx"
    refine se_cutT ?_
    walk_at "gx"
    refine rx_tup (s := .tup (B.map rowT)) (at_in a1 (by rw [List.getElem?_map, hB]; rfl)) ?_
    refine .none ?_
    refine .some ?_
    walk_at "gx"
    refine ⟨_, rfl, ?_⟩
    refine ⟨_, rfl, ?_⟩
    walk_at "gx"
    rw [c5]
    refine ro_catT (by rw [List.length_take, List.length_map]; simp only [List.length_cons, List.length_nil]; omega) ?_
    refine se_cutT ?_
    walk_at "gx"
    refine rx_tup (s := .tup (B.map rowT)) (at_in a1 (by rw [List.getElem?_map, hB]; rfl)) ?_
    refine .some ?_
    walk_at "gx"
    refine ⟨_, rfl, ?_⟩
    refine .none ?_
    refine ⟨_, rfl, ?_⟩
    rw [c6]
    refine ro_catT (by rw [List.length_append, List.length_take, List.length_drop, List.length_map]; simp only [List.length_cons, List.length_nil]; omega) ?_
    generalize hnb : (B.map rowT).take q2.toNat ++ [z] ++ (B.map rowT).drop (q2.toNat + 1) = nb
    show SSs _ G _ [some (.ptr p), some (picT b sh bl l), some (.tup [.int b, .tup (sh.map S.int), .tup (bl.map blkT)]), some (.int l), some (.int b), some (.tup (sh.map S.int)), some (.tup (bl.map blkT)), some (.int q1), some (.int q2), some (.int q3), some wz, some (.tup (r.map S.int)), some z, some (.tup nb), y3, y4, y5] M' _
    walk_at "s"
    walk_at "gx"
    refine se_cutT ?_
    walk_at "gx"
    refine .none ?_
    refine .some ?_
    walk_at "gx"
    refine ⟨_, rfl, ?_⟩
    refine ⟨_, rfl, ?_⟩
    walk_at "gx"
    rw [c7]
    refine ro_catT (by rw [List.length_take, List.length_map]; simp only [List.length_cons, List.length_nil]; omega) ?_
    refine se_cutT ?_
    walk_at "gx"
    refine .some ?_
    walk_at "gx"
    refine ⟨_, rfl, ?_⟩
    refine .none ?_
    refine ⟨_, rfl, ?_⟩
    rw [c8]
    refine ro_catT (by rw [List.length_append, List.length_take, List.length_drop, List.length_map]; simp only [List.length_cons, List.length_nil]; omega) ?_
    walk_at "gx"
    generalize hnl : (bl.map blkT).take q1.toNat ++ [S.tup nb] ++ (bl.map blkT).drop (q1.toNat + 1) = nl
    show SSs _ G _ [some (.ptr p), some (picT b sh bl l), some (.tup [.int b, .tup (sh.map S.int), .tup (bl.map blkT)]), some (.int l), some (.int b), some (.tup (sh.map S.int)), some (.tup (bl.map blkT)), some (.int q1), some (.int q2), some (.int q3), some wz, some (.tup (r.map S.int)), some z, some (.tup nb), some (.tup [.tup [.int b, .tup (sh.map S.int), .tup nl], .int l]), y4, y5] M' _
    have nbl : nb.length = B.length := by
      rw [← hnb, List.length_append, List.length_append, List.length_take, List.length_drop, List.length_map]
      simp only [List.length_cons, List.length_nil]
      omega
    have nll : nl.length = bl.length := by
      rw [← hnl, List.length_append, List.length_append, List.length_take, List.length_drop, List.length_map]
      simp only [List.length_cons, List.length_nil]
      omega
    have zm : z ∈ nb := by rw [← hnb]; simp
    have bm : S.tup nb ∈ nl := by rw [← hnl]; simp
    have hbad : Bad M' (fun a => a ≠ p) (.tup [.tup [.int b, .tup (sh.map S.int), .tup nl], .int l]) := by
      have ink' := s8.ink.sub sm
      have zk' : Kn M' z := zk.grow (Grow.of sm) ink'.ne
      have zd' : DaE M' (fun a => a ≠ p) 2 z := zd.frame (fun a o _ h => sm a o h) fun _ h => h
      have onb : ∀ s, s ∈ nb → Kn M' s ∧ DaE M' (fun a => a ≠ p) 2 s := fun s hs => by
        rw [← hnb, List.mem_append, List.mem_append, List.mem_singleton] at hs
        have old : s ∈ B.map rowT → Kn M' s ∧ DaE M' (fun a => a ≠ p) 2 s := fun h => by
          obtain ⟨x, hx, rfl⟩ := List.mem_map.mp h
          exact ⟨Kn.ints M' x, .row ok.ok hBm hx⟩
        rcases hs with (h | rfl) | h
        · exact old (List.mem_of_mem_take h)
        · exact ⟨zk', zd'⟩
        · exact old (List.mem_of_mem_drop h)
      have onl : ∀ s, s ∈ nl → Kn M' s ∧ DaE M' (fun a => a ≠ p) 3 s := fun s hs => by
        rw [← hnl, List.mem_append, List.mem_append, List.mem_singleton] at hs
        have old : s ∈ bl.map blkT → Kn M' s ∧ DaE M' (fun a => a ≠ p) 3 s := fun h => by
          obtain ⟨x, hx, rfl⟩ := List.mem_map.mp h
          exact ⟨Kn.blk M' x, .blk ok.ok hx⟩
        rcases hs with (h | rfl) | h
        · exact old (List.mem_of_mem_take h)
        · exact ⟨.tup fun s hs => (onb s hs).1, .tup (fun s hs => (onb s hs).2) (Nat.le_trans (by omega) (wd_5 _))⟩
        · exact old (List.mem_of_mem_drop h)
      have l0 := ok.l0
      have l1 := ok.l1
      refine ⟨.tup fun s hs => ?_, ?_, 6, Nat.le_refl _, .tup (.pair (.like ok.ok (by omega) (by omega) (.tup (fun s hs => (onl s hs).2) (by show _ ≤ 64; omega))) (by omega) (by omega)) (show 2 ≤ Wd 6 by decide)⟩
      · simp only [List.mem_cons, List.not_mem_nil, or_false] at hs
        rcases hs with rfl | rfl
        · refine .tup fun s hs => ?_
          simp only [List.mem_cons, List.not_mem_nil, or_false] at hs
          rcases hs with rfl | rfl | rfl
          · exact .int _
          · exact Kn.ints M' sh
          · exact .tup fun s hs => (onl s hs).1
        · exact .int _
      · show ((_ && _) && (_ && List.all nl (isBlk b nl.length))) = false
        have ez : isBlk b nl.length (.tup nb) = false := by
          show (_ && List.all nb (isRow b nl.length)) = false
          rw [List.all_eq_false.mpr ⟨z, zm, by rw [nll, lb, zr]; simp⟩, Bool.and_false]
        rw [List.all_eq_false.mpr ⟨_, bm, by rw [ez]; simp⟩, Bool.and_false, Bool.and_false]
    walk_at "s"
    walk_at "gt"
    refine bad_go hbad fun s' M9 dt nt A1 A2 hle hsub e1 e2 => ?_
    show SSs _ G _ [some (.ptr p), some (picT b sh bl l), some (.tup [.int b, .tup (sh.map S.int), .tup (bl.map blkT)]), some (.int l), some (.int b), some (.tup (sh.map S.int)), some (.tup (bl.map blkT)), some (.int q1), some (.int q2), some (.int q3), some wz, some (.tup (r.map S.int)), some z, some (.tup nb), some (.tup [.tup [.int b, .tup (sh.map S.int), .tup nl], .int l]), some (.exn (.ref cI) s'), y5] M9 _
    walk_at "s"
    walk_at "gt"
    refine se_glob (v := .ref cI) (gl_of dn g_InvalidPicture) KI.mg rfl (fun _ => .ptr cI) ?_
    walk_at "gt"
    refine rb_isE KI.ext KI.self (.own cI) (QB.mk ⟨fun c => (by cases c), fun _ => ?_⟩)
    walk_at "gt"
    refine se_value ?_ rfl
    walk_at "gt"
    refine ⟨cI, _, rfl, KI.ext, ?_⟩
    walk_at "gt"
    refine rb_repr dn e1 hle ?_
    walk_at "gx"
    refine rb_repr dn e2 hle ?_
    refine rc_neStr (QB.mk ⟨fun c => (by cases c), fun _ => ?_⟩)
    refine sb_nil ?_
    exact ⟨sm.trans hsub, _, _, _, _, _, rfl⟩
  · rintro v' M' ⟨sm, y1, y2, y3, y4, y5, rfl⟩
    refine sb_cons ?_
    refine dx_for d (fun _ => rfl) ?_
    refine si_lst ?_
    walk_at "gx"
    refine ro_modI (by decide) ?_
    walk_at "gx"
    refine ro_modI (by decide) ?_
    walk_at "gx"
    refine fun u9 h9 => ?_
    have sub9 := Sub.new h9 (o := .lst [.int (2 + (b - 1) % 3), .int (2 + b % 3)])
    have m9' : (updM M' u9 (.lst [.int (2 + (b - 1) % 3), .int (2 + b % 3)])) u9 = some (.lst [.int (2 + (b - 1) % 3), .int (2 + b % 3)]) := updM_same
    generalize updM M' u9 _ = M9 at sub9 m9' ⊢
    refine ⟨u9, _, rfl, m9', ?_⟩
    refine ⟨fun i v' M' => Sub M9 M' ∧ ∃ (y1 y2 y3 y4 y5 : Option S), v' = [some (.ptr p), some (picT b sh bl l), some (.tup [.int b, .tup (sh.map S.int), .tup (bl.map blkT)]), some (.int l), some (.int b), some (.tup (sh.map S.int)), some (.tup (bl.map blkT)), some (.int q1), some (.int q2), some (.int q3), some wz, some (.tup (r.map S.int)), y1, y2, y3, y4, y5], ⟨Sub.refl, _, _, _, _, _, rfl⟩, fun i v' M' hI => hI.1 _ _ m9', ?_, ?_⟩
    · rintro i z v' M10 es ⟨sm2, y1, y2, y3, y4, y5, rfl⟩
      obtain ⟨o, rfl, o0, o1, ob⟩ : ∃ o : Int, z = .int o ∧ 0 ≤ o ∧ o < 1000 ∧ o ≠ b := by
        have hz := List.mem_of_getElem? es
        simp only [List.mem_cons, List.not_mem_nil, or_false] at hz
        rcases hz with rfl | rfl
        · exact ⟨_, rfl, by omega, by omega, by omega⟩
        · exact ⟨_, rfl, by omega, by omega, by omega⟩
      have hbad : Bad M10 (fun a => a ≠ p) (.tup [.tup [.int o, .tup (sh.map S.int), .tup (bl.map blkT)], .int l]) := by
        have l0 := ok.l0
        have l1 := ok.l1
        refine ⟨.tup fun s hs => ?_, ?_, 6, Nat.le_refl _, .tup (.pair (.like ok.ok o0 o1 (.tup (DaE.blks ok.ok) (by rw [List.length_map]; show _ ≤ 64; omega))) (by omega) (by omega)) (show 2 ≤ Wd 6 by decide)⟩
        · simp only [List.mem_cons, List.not_mem_nil, or_false] at hs
          rcases hs with rfl | rfl
          · exact Kn.book M10 o sh bl
          · exact .int _
        · show ((_ && _) && (_ && List.all (bl.map blkT) (isBlk o (bl.map blkT).length))) = false
          have ez : isBlk o (bl.map blkT).length (blkT B) = false := by
            show (decide (((B.map rowT).length : Int) = o) && _) = false
            rw [decide_eq_false (by rw [List.length_map]; omega), Bool.false_and]
          rw [List.all_eq_false.mpr ⟨blkT B, List.mem_map_of_mem hBm, by rw [ez]; simp⟩, Bool.and_false, Bool.and_false]
      refine dx_tgt d 16 l16 ?_
      show SSs _ G _ [some (.ptr p), some (picT b sh bl l), some (.tup [.int b, .tup (sh.map S.int), .tup (bl.map blkT)]), some (.int l), some (.int b), some (.tup (sh.map S.int)), some (.tup (bl.map blkT)), some (.int q1), some (.int q2), some (.int q3), some wz, some (.tup (r.map S.int)), y1, y2, y3, y4, some (.int o)] M10 _
      walk_at "s"
      walk_at "gx"
      refine bad_go hbad fun s' M11 dt nt A1 A2 hle hsub e1 e2 => ?_
      show SSs _ G _ [some (.ptr p), some (picT b sh bl l), some (.tup [.int b, .tup (sh.map S.int), .tup (bl.map blkT)]), some (.int l), some (.int b), some (.tup (sh.map S.int)), some (.tup (bl.map blkT)), some (.int q1), some (.int q2), some (.int q3), some wz, some (.tup (r.map S.int)), y1, y2, y3, some (.exn (.ref cI) s'), some (.int o)] M11 _
      walk_at "s"
      walk_at "gt"
      refine se_glob (v := .ref cI) (gl_of dn g_InvalidPicture) KI.mg rfl (fun _ => .ptr cI) ?_
      walk_at "gt"
      refine rb_isE KI.ext KI.self (.own cI) (QB.mk ⟨fun c => (by cases c), fun _ => ?_⟩)
      walk_at "gt"
      refine se_value ?_ rfl
      walk_at "gt"
      refine ⟨cI, _, rfl, KI.ext, ?_⟩
      walk_at "gt"
      refine rb_repr dn e1 hle ?_
      walk_at "gx"
      refine rb_repr dn e2 hle ?_
      refine rc_neStr (QB.mk ⟨fun c => (by cases c), fun _ => ?_⟩)
      refine sb_nil ?_
      exact ⟨sm2.trans hsub, _, _, _, _, _, rfl⟩
    · rintro v' M10 ⟨sm2, y1, y2, y3, y4, y5, rfl⟩
      walk_at "go"
      exact ⟨_, Sub.refl, q M10 (((s8.sub (sm.trans (sub9.trans sm2))).sl (List.nil_sublist _)).up (by omega))⟩
end

end Sy

set_option Elab.async false
set_option linter.all false
set_option maxRecDepth 100000
set_option maxHeartbeats 1000000
namespace Sy
open PySem PySem.Spec PyProof.Rows L2
local macro_rules | `(tactic| walk_at "nm") => `(tactic| ((with_reducible refine' dn_name ?d _ ?h ?he ?q); (case d => assumption); (case h => with_reducible assumption); (case he => rfl)))
local macro_rules | `(tactic| walk_at "cn") => `(tactic| first | with_reducible refine se_int ?_ | with_reducible refine se_bl ?_ | with_reducible refine se_non ?_ | with_reducible refine se_str ?_)
local macro_rules | `(tactic| walk_at "ct") => `(tactic| ((with_reducible refine' dn_callT ?d ?m ?v ?g ?n ?db ?st ?pl ?q); (case d => assumption); (case m => with_reducible assumption); (case v => first | with_reducible exact bt_int | with_reducible exact bt_tuple | with_reducible exact bt_list | with_reducible exact bt_str | with_reducible exact bt_bool); (case g => with_reducible assumption); (case n => decide); (case db => decide); (case st => rfl); (case pl => rfl)))
local macro_rules | `(tactic| walk_at "cb") => `(tactic| ((with_reducible refine' dn_callB ?d ?m ?v ?g ?n ?db ?st ?pl ?q); (case d => assumption); (case m => with_reducible assumption); (case v => first | with_reducible exact bf_len | with_reducible exact bf_isinstance | with_reducible exact bf_all | with_reducible exact bf_max | with_reducible exact bf_min | with_reducible exact bf_abs | with_reducible exact bf_sum | with_reducible exact bf_any | with_reducible exact bf_repr); (case g => with_reducible assumption); (case n => decide); (case db => decide); (case st => rfl); (case pl => rfl)))
local macro_rules | `(tactic| walk_at "cf") => `(tactic| ((with_reducible refine' dn_call ?d ?F ?g ?k ?db ?st ?pl ?q); (case d => assumption); (case F => with_reducible assumption); (case g => with_reducible assumption); (case k => decide); (case db => decide); (case st => rfl); (case pl => rfl)))
local macro_rules | `(tactic| walk_at "tv") => `(tactic| ((with_reducible refine' dn_ty ?d ?m ?v ?g ?n ?db ?q); (case d => assumption); (case m => with_reducible assumption); (case v => first | with_reducible exact bt_int | with_reducible exact bt_tuple | with_reducible exact bt_list | with_reducible exact bt_str | with_reducible exact bt_bool); (case g => with_reducible assumption); (case n => decide); (case db => decide)))
local macro_rules | `(tactic| walk_at "ck") => `(tactic| ((with_reducible refine' dn_kw ?d ?F ?g ?k ?db ?a ?ks ?pl ?q); (case d => assumption); (case F => with_reducible assumption); (case g => with_reducible assumption); (case k => decide); (case db => decide); (case a => rfl); (case ks => rfl); (case pl => rfl)))
local macro_rules | `(tactic| walk_at "e") => `(tactic| first | walk_at "nm" | walk_at "cn" | with_reducible refine se_bin ?_ | ((with_reducible refine' se_cmp ?q ?st); (case st => first | exact nomark _ | rfl)) | ((with_reducible refine' se_ix ?q ?st); (case st => exact fun _ _ => rfl)) | with_reducible refine sa_nil ?_ | ((with_reducible refine' sa_cons ?q ?st); (case st => rfl)) | walk_at "cf" | walk_at "ck" | with_reducible refine sk_nil ?_ | with_reducible refine sk_cons ?_ | walk_at "cb" | walk_at "ct" | walk_at "tv" | with_reducible refine se_one ?_ | ((with_reducible refine' se_chain ?q ?st); (case st => with_unfolding_all rfl)) | with_reducible refine se_tup ?_ | with_reducible refine se_lst ?_ | with_reducible refine se_and ?_ | with_reducible refine se_or ?_ | with_reducible refine se_not ?_ | with_reducible refine se_un ?_ )
local macro_rules | `(tactic| walk_at "v") => `(tactic| first | with_reducible refine ro_addI ?_ | with_reducible refine rc_isIB ?_ | with_reducible refine rc_eqB ?_ | with_reducible refine rc_neB ?_ | with_reducible refine rc_isN ?_ | with_reducible refine rc_notN ?_ | with_reducible refine ro_subI ?_ | with_reducible refine rc_eqI ?_ | with_reducible refine rc_neI ?_ | with_reducible refine rc_ltI ?_ | with_reducible refine rc_leI ?_ | with_reducible refine rc_gtI ?_ | with_reducible refine rc_geI ?_ | with_reducible refine rb_intI ?_ | with_reducible refine ru_neg ?_ | with_reducible refine rb_tupleT ?_ | ((with_reducible refine rb_isInt ?h ?q); (case h => assumption)) | ((with_reducible refine rb_isBool ?h ?q); (case h => assumption)) | ((with_reducible refine rb_isTup ?h ?q); (case h => assumption)) | with_reducible refine rb_len its_tup ?_ | (refine rx_tup (by rfl) ?_) | ((with_reducible refine' rx_lst ?h ?a ?q); (case h => with_reducible assumption); (case a => rfl)))
local macro_rules | `(tactic| walk_at "ss") => `(tactic| first | with_reducible refine ss_ret (se_fg ?_) | with_reducible refine ss_if ?_ | ((with_reducible refine' ss_expr ?q ?st); (case st => rfl)) | ((with_reducible refine' dx_set ?d _ ?h ?hs ?q); (case d => assumption); (case h => with_reducible assumption); (case hs => rfl)) | ((with_reducible refine' ss_asg (tg := .Tuple _ _ _) ?q ?hs ?hw ?h1); (case hs => rfl); (case hw => rfl); (case h1 => rfl)))
local macro_rules | `(tactic| walk_at "s") => `(tactic| first | with_reducible refine sb_one ?_ | with_reducible refine sb_cons ?_ | walk_at "ss")
local macro_rules | `(tactic| walk_at "t") => `(tactic| first | with_reducible refine st_not ?_ | ((with_reducible refine' st_cmp ?q ?st); (case st => first | exact nomark _ | rfl)) | with_reducible refine sw_and1 ?_ | with_reducible refine sw_or1 ?_ | with_reducible refine sw_or ?_ | with_reducible refine sw_and ?_ | ((with_reducible refine' st_chain ?q ?st); (case st => with_unfolding_all rfl)) | (refine st_of ?_; first | with_reducible refine sw_or ?_ | with_reducible refine sw_and ?_) | ((with_reducible refine' st_val ?q ?st); (case st => intro _; rfl)))
local macro_rules | `(tactic| walk_at "go") => `(tactic| repeat (first | walk_at "e" | walk_at "v" | walk_at "s" | walk_at "t"))
local macro_rules | `(tactic| walk_at "gt") => `(tactic| repeat (first | walk_at "e" | walk_at "v" | walk_at "ss" | walk_at "t"))
local macro_rules | `(tactic| walk_at "gx") => `(tactic| repeat (first | walk_at "e" | walk_at "v" | walk_at "ss" | walk_at "t" | refine ⟨by simp only [List.length_cons, List.length_nil]; decide, ?_⟩))
local macro_rules | `(tactic| walk_at "tg") => `(tactic| repeat (first | ((with_reducible refine' sg_tup ?q ?hc ?hn ?st); (case hc => exact DX.calm (by assumption)); (case hn => rfl); (case st => rfl)) | (refine sgs_cons ?_) | with_reducible refine sgs_nil ?_ | ((refine dx_tgt (by assumption) _ (by with_reducible assumption) ?_))))
def C_right : Con := fun ss M Q _ => ∃ p, ss = [.ptr p] ∧ Ink M p 0 ∧ ∀ M', Q (.bl true) M'
def C_law : Con := fun ss M Q _ => ∃ ns : List Int, ss = [.rdl (ns.map S.int)] ∧ ns.length ≤ 63 ∧ (∀ n, n ∈ ns → n.natAbs < 2 ^ scB) ∧ ∀ M', Q (.bl true) M'
section
variable {P : Program} {w : World} {K : PySem.W.Frag} {mg : Str → Option Value} {base : Heap} {cI cD cS : Addr}
theorem sc_right : FnScope ["_law_ink_here", "_law_base", "_law_book_here", "_law_picture", "_law_sheets", "_law_most", "_law_depth"] ["_law_ink_here"] (defScope s_right) := ⟨rfl, rfl, rfl, by decide +kernel, rfl, by decide +kernel, by decide +kernel⟩
theorem ok_right {f : Addr} {fd : FuncData} (F : Fun K "_law_right" "_law_right" s_right f fd) (T : Txt mg) (F_drip : Fn P w K mg base "_law_drip" 1 C_drip) (F_book : Fn P w K mg base "_law_book" 3 C_book) (F_first_sheets : Fn P w K mg base "_law_first_sheets" 1 C_first) (F_next_sheets : Fn P w K mg base "_law_next_sheets" 1 C_next) (F_sheet_right : Fn P w K mg base "_law_sheet_right" 10 C_sheet_right) (F_refused : Fn P w K mg base "_law_refused" 11 C_refused) (F_inner_right : Fn P w K mg base "_law_inner_right" 11 C_inner_right) : FnOk P w K mg base (L2.CX P w) 12 f fd ["_law_ink_here"] (SpC K C_right) := by
  refine def_ok F sc_right (fun ss M Q E h => ?_) (fun X G eP ew eK em eb d ss M Q E h wi => ?_)
  · obtain ⟨p, rfl, hI, q⟩ := h; rfl
  subst eP ew eK em eb
  have dn := d.dn
  have n0 : nmB ["_law_ink_here", "_law_base", "_law_book_here", "_law_picture", "_law_sheets", "_law_most", "_law_depth"] (defScope s_right) 0 "_law_ink_here" = true := by decide +kernel
  have n1 : nmB ["_law_ink_here", "_law_base", "_law_book_here", "_law_picture", "_law_sheets", "_law_most", "_law_depth"] (defScope s_right) 1 "_law_base" = true := by decide +kernel
  have n2 : nmB ["_law_ink_here", "_law_base", "_law_book_here", "_law_picture", "_law_sheets", "_law_most", "_law_depth"] (defScope s_right) 2 "_law_book_here" = true := by decide +kernel
  have n3 : nmB ["_law_ink_here", "_law_base", "_law_book_here", "_law_picture", "_law_sheets", "_law_most", "_law_depth"] (defScope s_right) 3 "_law_picture" = true := by decide +kernel
  have n4 : nmB ["_law_ink_here", "_law_base", "_law_book_here", "_law_picture", "_law_sheets", "_law_most", "_law_depth"] (defScope s_right) 4 "_law_sheets" = true := by decide +kernel
  have n5 : nmB ["_law_ink_here", "_law_base", "_law_book_here", "_law_picture", "_law_sheets", "_law_most", "_law_depth"] (defScope s_right) 5 "_law_most" = true := by decide +kernel
  have n6 : nmB ["_law_ink_here", "_law_base", "_law_book_here", "_law_picture", "_law_sheets", "_law_most", "_law_depth"] (defScope s_right) 6 "_law_depth" = true := by decide +kernel
  have l1 : lcB ["_law_ink_here", "_law_base", "_law_book_here", "_law_picture", "_law_sheets", "_law_most", "_law_depth"] (defScope s_right) 1 "_law_base" = true := by decide +kernel
  have l2 : lcB ["_law_ink_here", "_law_base", "_law_book_here", "_law_picture", "_law_sheets", "_law_most", "_law_depth"] (defScope s_right) 2 "_law_book_here" = true := by decide +kernel
  have l3 : lcB ["_law_ink_here", "_law_base", "_law_book_here", "_law_picture", "_law_sheets", "_law_most", "_law_depth"] (defScope s_right) 3 "_law_picture" = true := by decide +kernel
  have l4 : lcB ["_law_ink_here", "_law_base", "_law_book_here", "_law_picture", "_law_sheets", "_law_most", "_law_depth"] (defScope s_right) 4 "_law_sheets" = true := by decide +kernel
  have l5 : lcB ["_law_ink_here", "_law_base", "_law_book_here", "_law_picture", "_law_sheets", "_law_most", "_law_depth"] (defScope s_right) 5 "_law_most" = true := by decide +kernel
  have l6 : lcB ["_law_ink_here", "_law_base", "_law_book_here", "_law_picture", "_law_sheets", "_law_most", "_law_depth"] (defScope s_right) 6 "_law_depth" = true := by decide +kernel
  have g__law_drip : glB (defScope s_right) "_law_drip" = true := by decide +kernel
  have g__law_book : glB (defScope s_right) "_law_book" = true := by decide +kernel
  have g_len : glB (defScope s_right) "len" = true := by decide +kernel
  have g__law_first_sheets : glB (defScope s_right) "_law_first_sheets" = true := by decide +kernel
  have g_int : glB (defScope s_right) "int" = true := by decide +kernel
  have g_range : glB (defScope s_right) "range" = true := by decide +kernel
  have g__law_sheet_right : glB (defScope s_right) "_law_sheet_right" = true := by decide +kernel
  have g__law_next_sheets : glB (defScope s_right) "_law_next_sheets" = true := by decide +kernel
  have g__law_refused : glB (defScope s_right) "_law_refused" = true := by decide +kernel
  have g__law_inner_right : glB (defScope s_right) "_law_inner_right" = true := by decide +kernel
  have t_int := T.int
  have t_len := T.len
  have t_range := T.range
  obtain ⟨p, rfl, hI, q⟩ := h
  conv => pattern (defBody _); whnf
  show SSs X G _ [some (.ptr p), none, none, none, none, none, none] M _
  have e62 : (2 : Int) ^ 62 = 4611686018427387904 := by decide
  have e200 : (1000000 : Int) < 2 ^ 200 := by decide
  have s0 := Sx.of hI
  walk_at "s"
  walk_at "gt"
  refine drip_go s0 (by omega) (by omega) (by omega) fun r1 M1 a1 c1 s1 => ?_
  walk_at "gt"
  show SSs _ G _ [some (.ptr p), some (.int (2 + r1)), none, none, none, none, none] M1 _
  walk_at "s"
  walk_at "gt"
  refine ⟨p, _, _, 8, rfl, s1.ink, by omega, by omega, by omega, by omega, by omega, fun sh bl M2 hl bok t2 => ?_⟩
  have s2 := s1.call t2
  show SSs _ G _ [some (.ptr p), some (.int (2 + r1)), some (bookT (2 + r1) sh bl), none, none, none, none] M2 _
  generalize 2 + r1 = b at bok ⊢
  have b0 := bok.b0
  have b1 := bok.b1
  have L0 := bok.l0
  have L1 := bok.l1
  walk_at "s"
  unfold bookT
  walk_at "gt"
  refine drip_go s2 (by omega) (by rw [List.length_map]; omega) (by rw [List.length_map]; omega) fun l M3 a3 c3 s3 => ?_
  rw [List.length_map] at c3
  walk_at "gx"
  have ok : PicOk b sh bl l := ⟨bok, a3, c3⟩
  show SSs _ G _ [some (.ptr p), some (.int b), some (.tup [.int b, .tup (sh.map S.int), .tup (bl.map blkT)]), some (.tup [.tup [.int b, .tup (sh.map S.int), .tup (bl.map blkT)], .int l]), none, none, none] M3 _
  walk_at "s"
  walk_at "gt"
  refine ⟨b, sh, bl, rfl, L1, fun u M4 sub4 t4 => ?_⟩
  show SSs _ G _ [some (.ptr p), some (.int b), some (.tup [.int b, .tup (sh.map S.int), .tup (bl.map blkT)]), some (.tup [.tup [.int b, .tup (sh.map S.int), .tup (bl.map blkT)], .int l]), some (.ptr u), none, none] M4 _
  have i4 := s3.ink.sub sub4
  have np : M3 p ≠ none := s3.ink.ne
  have sz := Sx.of i4
  walk_at "s"
  walk_at "gx"
  refine fun u5 h5 => ?_
  have m5 : (updM M4 u5 (.lst [.int 6, .int 4, .int 3])) u5 = some (.lst [.int 6, .int 4, .int 3]) := updM_same
  have s5 := sz.new h5 (o := .lst [.int 6, .int 4, .int 3])
  generalize updM M4 u5 _ = M5 at m5 s5 ⊢
  obtain ⟨m0, hat, hm0, hm1, hm2⟩ : ∃ m0 : Nat, atI [S.int 6, .int 4, .int 3] (b - 2) = some (.int m0) ∧ b.toNat ^ m0 ≤ 100 ∧ 3 ≤ m0 ∧ m0 ≤ 6 := by
    have : b = 2 ∨ b = 3 ∨ b = 4 := by omega
    rcases this with rfl | rfl | rfl
    · exact ⟨6, rfl, by decide, by decide, by decide⟩
    · exact ⟨4, rfl, by decide, by decide, by decide⟩
    · exact ⟨3, rfl, by decide, by decide, by decide⟩
  walk_at "gt"
  refine rx_lst m5 hat ?_
  walk_at "gt"
  refine drip_go s5 (by omega) (by omega) (by omega) fun q6 M6 a6 d6 s6 => ?_
  walk_at "gt"
  refine rb_intB ?_
  walk_at "gt"
  obtain ⟨mo, emo, hmo⟩ : ∃ mo : Nat, (m0 : Int) - (if decide (q6 > 0) = true then 1 else 0) = mo ∧ mo ≤ m0 := by
    by_cases z : q6 > 0
    · rw [decide_eq_true z, if_pos rfl]
      exact ⟨m0 - 1, by omega, by omega⟩
    · rw [decide_eq_false z, if_neg (by decide)]
      exact ⟨m0, by omega, by omega⟩
  rw [emo]
  show SSs _ G _ [some (.ptr p), some (.int b), some (.tup [.int b, .tup (sh.map S.int), .tup (bl.map blkT)]), some (.tup [.tup [.int b, .tup (sh.map S.int), .tup (bl.map blkT)], .int l]), some (.ptr u), some (.int mo), none] M6 _
  have t6 : T3 (fun _ => True) M6 u (lsh b sh bl 0) := t4.frame (fun a o ha h => s6.gr a o (fun e => np (by rw [← e]; exact ha)) h) fun _ _ => True.intro
  have i6 := s6.ink
  refine sb_cons ?_
  refine dx_for d (fun _ => rfl) ?_
  refine si_range1 (gl_of dn g_range) t_range ?_
  walk_at "gt"
  refine ⟨_, rfl, by omega, by omega, ?_⟩
  rw [show ((mo : Int) + 1).toNat = mo + 1 by omega]
  refine ⟨fun i v' M' => i ≤ mo + 1 ∧ ∃ (u : Addr) (y : Option S), v' = [some (.ptr p), some (.int b), some (.tup [.int b, .tup (sh.map S.int), .tup (bl.map blkT)]), some (.tup [.tup [.int b, .tup (sh.map S.int), .tup (bl.map blkT)], .int l]), some (.ptr u), some (.int mo), y] ∧ Ink M' p 10100 ∧ T3 (fun _ => True) M' u (lsh b sh bl (min i mo)), ⟨Nat.zero_le _, u, none, rfl, i6.up (by omega), by rw [Nat.zero_min]; exact t6⟩, fun _ _ _ _ => True.intro, ?_, ?_⟩
  · rintro i s v' M' es ⟨hi, u, y, rfl, ik, t3⟩
    obtain ⟨hlt, rfl⟩ := rgS_get es
    rw [Nat.min_eq_left (by omega)] at t3
    rw [Int.zero_add]
    refine dx_tgt d 6 l6 ?_
    show SSs _ G _ [some (.ptr p), some (.int b), some (.tup [.int b, .tup (sh.map S.int), .tup (bl.map blkT)]), some (.tup [.tup [.int b, .tup (sh.map S.int), .tup (bl.map blkT)], .int l]), some (.ptr u), some (.int mo), some (.int i)] M' _
    have hp : b.toNat ^ i ≤ 100 := Nat.le_trans (Nat.pow_le_pow_right (by omega) (by omega)) hm0
    have sq := lsh_sq bok i
    have sql := sq.len
    obtain ⟨vs, hvs, _, mu, hv⟩ := id t3
    have lv : l.toNat < vs.length := by omega
    walk_at "s"
    walk_at "gt"
    refine rx_lst mu (at_in (s := .ptr vs[l.toNat]) a3 (by rw [List.getElem?_map, List.getElem?_eq_getElem lv]; rfl)) ?_
    refine sa_nil ?_
    refine ⟨b, sh, bl, l, _, i, rfl, ok, by omega, hp, hv l.toNat _ _ (List.getElem?_eq_getElem lv) (lsh_at ok i), fun M7 sub7 => ?_⟩
    refine QB.mk ⟨fun c => (by cases c), fun _ => ?_⟩
    refine sb_nil ?_
    walk_at "s"
    walk_at "gt"
    refine QB.mk ⟨fun c => ?_, fun c => ?_⟩
    · walk_at "go"
      refine ⟨b, sh, bl, u, _, _, rfl, bok, sq, hp, t3.sub sub7, fun v M8 sub8 t8 => ?_⟩
      have hi1 : (i : Int) < mo := of_decide_eq_true c
      refine ⟨by omega, v, _, rfl, ik.sub (sub7.trans sub8), ?_⟩
      rw [Nat.min_eq_left (by omega)]
      exact t8.frame (fun _ _ _ h => h) fun _ _ => True.intro
    · have hi1 : ¬ (i : Int) < mo := of_decide_eq_false c
      refine sb_nil ?_
      refine ⟨by omega, u, _, rfl, ik.sub sub7, ?_⟩
      rw [Nat.min_eq_right (by omega), show mo = i by omega]
      exact t3.sub sub7
  · rintro v' M' ⟨hi, u, y, rfl, ik, t3⟩
    walk_at "s"
    walk_at "gt"
    refine ⟨p, _, b, sh, bl, l, rfl, ok, ik, by omega, fun M7 t7 => ?_⟩
    refine ⟨_, rfl, fun _ => ?_, fun c => (by cases c)⟩
    walk_at "gt"
    refine ⟨p, _, b, sh, bl, l, rfl, ok, t7.ink, by omega, fun M8 t8 => ?_⟩
    exact ⟨_, Sub.refl, q _⟩
theorem sc_law : FnScope ["_law_script", "_law_k"] ["_law_script"] (defScope s_law) := ⟨rfl, rfl, rfl, by decide +kernel, rfl, by decide +kernel, by decide +kernel⟩
theorem ok_law {f : Addr} {fd : FuncData} (F : Fun K "law" "law" s_law f fd) (T : Txt mg) (F_ink : Fn P w K mg base "_law_ink" 1 C_ink) (F_right : Fn P w K mg base "_law_right" 12 C_right) : FnOk P w K mg base (L2.CX P w) 13 f fd ["_law_script"] (SpC K C_law) := by
  refine def_ok F sc_law (fun ss M Q E h => ?_) (fun X G eP ew eK em eb d ss M Q E h wi => ?_)
  · obtain ⟨ns, rfl, hl, hb, q⟩ := h; rfl
  subst eP ew eK em eb
  have dn := d.dn
  have n0 : nmB ["_law_script", "_law_k"] (defScope s_law) 0 "_law_script" = true := by decide +kernel
  have n1 : nmB ["_law_script", "_law_k"] (defScope s_law) 1 "_law_k" = true := by decide +kernel
  have l1 : lcB ["_law_script", "_law_k"] (defScope s_law) 1 "_law_k" = true := by decide +kernel
  have g_range : glB (defScope s_law) "range" = true := by decide +kernel
  have g_max : glB (defScope s_law) "max" = true := by decide +kernel
  have g_min : glB (defScope s_law) "min" = true := by decide +kernel
  have g_len : glB (defScope s_law) "len" = true := by decide +kernel
  have g__law_right : glB (defScope s_law) "_law_right" = true := by decide +kernel
  have g__law_ink : glB (defScope s_law) "_law_ink" = true := by decide +kernel
  have t_len := T.len
  have t_max := T.max
  have t_min := T.min
  have t_range := T.range
  obtain ⟨ns, rfl, hl, hb, q⟩ := h
  conv => pattern (defBody _); whnf
  show SSs X G _ [some (.rdl (ns.map S.int)), none] M _
  have e62 : (2 : Int) ^ 62 = 4611686018427387904 := by decide
  refine sb_cons ?_
  refine dx_for d (fun _ => rfl) ?_
  refine si_range1 (gl_of dn g_range) t_range ?_
  walk_at "go"
  refine rb_len its_rdl ?_
  walk_at "go"
  refine rb_min ?_ d.calm
  walk_at "go"
  refine rb_max ?_ d.calm
  rw [List.length_map]
  have em : (if (ns.length : Int) < 4 then (ns.length : Int) else 4) ≤ 4 := by split <;> omega
  generalize (if (ns.length : Int) < 4 then (ns.length : Int) else 4) = m at em ⊢
  have em2 : (if m > 1 then m else 1) ≤ 5 := by split <;> omega
  have em3 : 1 ≤ (if m > 1 then m else 1) := by split <;> omega
  generalize (if m > 1 then m else 1) = m2 at em2 em3 ⊢
  refine ⟨_, rfl, by omega, by omega, ?_⟩
  refine ⟨fun i v' M' => ∃ x1 : Option S, v' = [some (.rdl (ns.map S.int)), x1], ⟨none, rfl⟩, fun _ _ _ _ => True.intro, ?_, ?_⟩
  · rintro i s v' M1 es ⟨x1, rfl⟩
    obtain ⟨hi, rfl⟩ := rgS_get es
    refine dx_tgt d 1 l1 ?_
    show SSs X G _ [some (.rdl (ns.map S.int)), some (.int (0 + i))] M1 _
    walk_at "go"
    refine ⟨ns, _, rfl, by omega, by omega, hl, hb, fun p M2 hp I2 B2 => ?_⟩
    walk_at "gx"
    refine ⟨p, rfl, I2, fun M3 => ?_⟩
    refine QB.mk ⟨fun c => ?_, fun c => ?_⟩
    · cases c
    refine sb_nil ?_
    exact ⟨_, rfl⟩
  · rintro v' M1 ⟨x1, rfl⟩
    walk_at "go"
    exact ⟨_, Sub.refl, q _⟩
end

end Sy

set_option Elab.async false
set_option linter.all false
set_option maxRecDepth 100000
set_option maxHeartbeats 1000000
namespace Sy
open PySem PySem.Spec PyProof.Rows L2
local macro_rules | `(tactic| walk_at "nm") => `(tactic| ((with_reducible refine' dn_name ?d _ ?h ?he ?q); (case d => assumption); (case h => with_reducible assumption); (case he => rfl)))
local macro_rules | `(tactic| walk_at "cn") => `(tactic| first | with_reducible refine se_int ?_ | with_reducible refine se_bl ?_ | with_reducible refine se_non ?_ | with_reducible refine se_str ?_)
local macro_rules | `(tactic| walk_at "ct") => `(tactic| ((with_reducible refine' dn_callT ?d ?m ?v ?g ?n ?db ?st ?pl ?q); (case d => assumption); (case m => with_reducible assumption); (case v => first | with_reducible exact bt_int | with_reducible exact bt_tuple | with_reducible exact bt_list | with_reducible exact bt_str | with_reducible exact bt_bool); (case g => with_reducible assumption); (case n => decide); (case db => decide); (case st => rfl); (case pl => rfl)))
local macro_rules | `(tactic| walk_at "cb") => `(tactic| ((with_reducible refine' dn_callB ?d ?m ?v ?g ?n ?db ?st ?pl ?q); (case d => assumption); (case m => with_reducible assumption); (case v => first | with_reducible exact bf_len | with_reducible exact bf_isinstance | with_reducible exact bf_all | with_reducible exact bf_max | with_reducible exact bf_min | with_reducible exact bf_abs | with_reducible exact bf_sum | with_reducible exact bf_any | with_reducible exact bf_repr); (case g => with_reducible assumption); (case n => decide); (case db => decide); (case st => rfl); (case pl => rfl)))
local macro_rules | `(tactic| walk_at "cf") => `(tactic| ((with_reducible refine' dn_call ?d ?F ?g ?k ?db ?st ?pl ?q); (case d => assumption); (case F => with_reducible assumption); (case g => with_reducible assumption); (case k => decide); (case db => decide); (case st => rfl); (case pl => rfl)))
local macro_rules | `(tactic| walk_at "tv") => `(tactic| ((with_reducible refine' dn_ty ?d ?m ?v ?g ?n ?db ?q); (case d => assumption); (case m => with_reducible assumption); (case v => first | with_reducible exact bt_int | with_reducible exact bt_tuple | with_reducible exact bt_list | with_reducible exact bt_str | with_reducible exact bt_bool); (case g => with_reducible assumption); (case n => decide); (case db => decide)))
local macro_rules | `(tactic| walk_at "ck") => `(tactic| ((with_reducible refine' dn_kw ?d ?F ?g ?k ?db ?a ?ks ?pl ?q); (case d => assumption); (case F => with_reducible assumption); (case g => with_reducible assumption); (case k => decide); (case db => decide); (case a => rfl); (case ks => rfl); (case pl => rfl)))
local macro_rules | `(tactic| walk_at "e") => `(tactic| first | walk_at "nm" | walk_at "cn" | with_reducible refine se_bin ?_ | ((with_reducible refine' se_cmp ?q ?st); (case st => first | exact nomark _ | rfl)) | ((with_reducible refine' se_ix ?q ?st); (case st => exact fun _ _ => rfl)) | with_reducible refine sa_nil ?_ | ((with_reducible refine' sa_cons ?q ?st); (case st => rfl)) | walk_at "cf" | walk_at "ck" | with_reducible refine sk_nil ?_ | with_reducible refine sk_cons ?_ | walk_at "cb" | walk_at "ct" | walk_at "tv" | with_reducible refine se_one ?_ | ((with_reducible refine' se_chain ?q ?st); (case st => with_unfolding_all rfl)) | with_reducible refine se_tup ?_ | with_reducible refine se_lst ?_ | with_reducible refine se_and ?_ | with_reducible refine se_or ?_ | with_reducible refine se_not ?_ | with_reducible refine se_un ?_ )
local macro_rules | `(tactic| walk_at "v") => `(tactic| first | with_reducible refine ro_addI ?_ | with_reducible refine rc_isIB ?_ | with_reducible refine rc_eqB ?_ | with_reducible refine rc_neB ?_ | with_reducible refine rc_isN ?_ | with_reducible refine rc_notN ?_ | with_reducible refine ro_subI ?_ | with_reducible refine rc_eqI ?_ | with_reducible refine rc_neI ?_ | with_reducible refine rc_ltI ?_ | with_reducible refine rc_leI ?_ | with_reducible refine rc_gtI ?_ | with_reducible refine rc_geI ?_ | with_reducible refine rb_intI ?_ | with_reducible refine ru_neg ?_ | with_reducible refine rb_tupleT ?_ | ((with_reducible refine rb_isInt ?h ?q); (case h => assumption)) | ((with_reducible refine rb_isBool ?h ?q); (case h => assumption)) | ((with_reducible refine rb_isTup ?h ?q); (case h => assumption)) | with_reducible refine rb_len its_tup ?_ | (refine rx_tup (by rfl) ?_) | ((with_reducible refine' rx_lst ?h ?a ?q); (case h => with_reducible assumption); (case a => rfl)))
local macro_rules | `(tactic| walk_at "ss") => `(tactic| first | with_reducible refine ss_ret (se_fg ?_) | with_reducible refine ss_if ?_ | ((with_reducible refine' ss_expr ?q ?st); (case st => rfl)) | ((with_reducible refine' dx_set ?d _ ?h ?hs ?q); (case d => assumption); (case h => with_reducible assumption); (case hs => rfl)) | ((with_reducible refine' ss_asg (tg := .Tuple _ _ _) ?q ?hs ?hw ?h1); (case hs => rfl); (case hw => rfl); (case h1 => rfl)))
local macro_rules | `(tactic| walk_at "s") => `(tactic| first | with_reducible refine sb_one ?_ | with_reducible refine sb_cons ?_ | walk_at "ss")
local macro_rules | `(tactic| walk_at "t") => `(tactic| first | with_reducible refine st_not ?_ | ((with_reducible refine' st_cmp ?q ?st); (case st => first | exact nomark _ | rfl)) | with_reducible refine sw_and1 ?_ | with_reducible refine sw_or1 ?_ | with_reducible refine sw_or ?_ | with_reducible refine sw_and ?_ | ((with_reducible refine' st_chain ?q ?st); (case st => with_unfolding_all rfl)) | (refine st_of ?_; first | with_reducible refine sw_or ?_ | with_reducible refine sw_and ?_) | ((with_reducible refine' st_val ?q ?st); (case st => intro _; rfl)))
local macro_rules | `(tactic| walk_at "go") => `(tactic| repeat (first | walk_at "e" | walk_at "v" | walk_at "s" | walk_at "t"))
local macro_rules | `(tactic| walk_at "gt") => `(tactic| repeat (first | walk_at "e" | walk_at "v" | walk_at "ss" | walk_at "t"))
local macro_rules | `(tactic| walk_at "gx") => `(tactic| repeat (first | walk_at "e" | walk_at "v" | walk_at "ss" | walk_at "t" | refine ⟨by simp only [List.length_cons, List.length_nil]; decide, ?_⟩))
local macro_rules | `(tactic| walk_at "tg") => `(tactic| repeat (first | ((with_reducible refine' sg_tup ?q ?hc ?hn ?st); (case hc => exact DX.calm (by assumption)); (case hn => rfl); (case st => rfl)) | (refine sgs_cons ?_) | with_reducible refine sgs_nil ?_ | ((refine dx_tgt (by assumption) _ (by with_reducible assumption) ?_))))
/-- a def that the top has written -/
def Top (K : PySem.W.Frag) (nm : Str) (st : Stmt) : Prop := ∃ f fd, PySem.W.nsIn K mainGlobals nm = some (some (.ref f)) ∧ Fun K nm nm st f fd
theorem top_mk {K : PySem.W.Frag} {nm : Str} {st : Stmt} {f : Addr} {oc : Value} {od an : Option Addr} {osl : Array (Option Value)} {kV doc pm cdv ct : Value} (a : PySem.W.nsIn K mainGlobals nm = some (some (.ref f))) (l : K.lookup f = some ⟨oc, od, .func (PySem.W.fnOf nm nm (defArgs st) (defBody st) (defScope st) .none kV doc pm an cdv ct), osl⟩)
    (c : PySem.W.codeIn K cdv nm = true) (k : PySem.W.keepIn K (.ref f) = true) : Top K nm st := ⟨_, _, a, fun_mk l c k⟩
theorem Top.fn {P : Program} {w : World} {K : PySem.W.Frag} {mg : Str → Option Value} {base h : Heap} {nm : Str} {st : Stmt} {k : Nat} {ps : List Str} {C : Con} (T : Top K nm st) (X : K.In h) (G : h.Ns mainGlobals mg) (ok : ∀ f fd, Fun K nm nm st f fd → FnOk P w K mg base (L2.CX P w) k f fd ps (SpC K C))
    (b : ∀ (kV doc pm : Value) (an : Option Addr) (cdv ct : Value) (us : List Value), us.length = ps.length → bindArgs (PySem.W.fnOf nm nm (defArgs st) (defBody st) (defScope st) .none kV doc pm an cdv ct) ⟨us, []⟩ = pure (ps.zip us)) : Fn P w K mg base nm k C := by
  obtain ⟨f, fd, a, F⟩ := T
  exact ⟨f, fd, ps, ok f fd F, PySem.W.mg_of X G a, F.kp, F.binds b⟩
theorem Top.kw {P : Program} {w : World} {K : PySem.W.Frag} {mg : Str → Option Value} {base h : Heap} {nm : Str} {st : Stmt} {k : Nat} {ps : List Str} {C : Con} (T : Top K nm st) (X : K.In h) (G : h.Ns mainGlobals mg) (ok : ∀ f fd, Fun K nm nm st f fd → FnOk P w K mg base (L2.CX P w) k f fd ps (SpC K C))
    (b : ∀ (kV doc pm : Value) (an : Option Addr) (cdv ct : Value) (s : Shared) (us : List Value), us.length = ps.length → BindsTo s (PySem.W.fnOf nm nm (defArgs st) (defBody st) (defScope st) .none kV doc pm an cdv ct) ⟨[], ps.zip us⟩ (ps.zip us)) : FnK P w K mg base nm k ps C := by
  obtain ⟨f, fd, a, F⟩ := T
  refine ⟨f, fd, ok f fd F, PySem.W.mg_of X G a, F.kp, fun s ws _ hl => ?_⟩
  obtain ⟨oc, od, kV, doc, pm, an, cdv, ct, osl, rfl, _⟩ := F.ex
  exact b kV doc pm an cdv ct s ws hl
theorem all_mk {l : PySem.W.OpenLaw} {w : World} {K : PySem.W.Frag} {h : Heap} {mg : Str → Option Value} {fa : Addr} {cD cI cS : Addr} (X : K.In h) (G : h.Ns mainGlobals mg) (hfa : mg "law" = some (.ref fa))
    (eS : PySem.W.nsIn K mainGlobals "SheetError" = some (some (.ref cS)))
    (e_InvalidPicture : ExcTab K "InvalidPicture" cI cS)
    (i_InvalidPicture : PySem.W.kitOne K (.ref cI) (.ref cI) = some true)
    (e_InvalidDepth : ExcTab K "InvalidDepth" cD cS)
    (i_InvalidDepth : PySem.W.kitOne K (.ref cD) (.ref cD) = some true)
    (T_is_int : Top K "is_int" s_is_int)
    (T_is_shelf : Top K "is_shelf" s_is_shelf)
    (T_are_shades : Top K "are_shades" s_are_shades)
    (T_are_blocks : Top K "are_blocks" s_are_blocks)
    (T_is_picture : Top K "is_picture" s_is_picture)
    (T_anew : Top K "anew" s_anew)
    (T_check_picture : Top K "check_picture" s_check_picture)
    (T_check_depth : Top K "check_depth" s_check_depth)
    (T_ink : Top K "_law_ink" s_ink)
    (T_drip : Top K "_law_drip" s_drip)
    (T_same : Top K "_law_same" s_same)
    (T_order : Top K "_law_order" s_order)
    (T_shades : Top K "_law_shades" s_shades)
    (T_block : Top K "_law_block" s_block)
    (T_renamed : Top K "_law_renamed" s_renamed)
    (T_book : Top K "_law_book" s_book)
    (T_first_sheets : Top K "_law_first_sheets" s_first_sheets)
    (T_next_sheets : Top K "_law_next_sheets" s_next_sheets)
    (T_unfolded : Top K "unfolded" s_unfolded)
    (T_shade_rows : Top K "shade_rows" s_shade_rows)
    (T_sheet : Top K "sheet" s_sheet)
    (T_sheet_right : Top K "_law_sheet_right" s_sheet_right)
    (T_caught : Top K "_law_caught" s_caught)
    (T_refused : Top K "_law_refused" s_refused)
    (T_inner_right : Top K "_law_inner_right" s_inner_right)
    (T_right : Top K "_law_right" s_right)
    (T_law : Top K "law" s_law)
    (z_len : PySem.W.nsIn K mainGlobals "len" = some none)
    (z_isinstance : PySem.W.nsIn K mainGlobals "isinstance" = some none)
    (z_all : PySem.W.nsIn K mainGlobals "all" = some none)
    (z_int : PySem.W.nsIn K mainGlobals "int" = some none)
    (z_bool : PySem.W.nsIn K mainGlobals "bool" = some none)
    (z_tuple : PySem.W.nsIn K mainGlobals "tuple" = some none)
    (z_list : PySem.W.nsIn K mainGlobals "list" = some none)
    (z_sum : PySem.W.nsIn K mainGlobals "sum" = some none)
    (z_max : PySem.W.nsIn K mainGlobals "max" = some none)
    (z_min : PySem.W.nsIn K mainGlobals "min" = some none)
    (z_abs : PySem.W.nsIn K mainGlobals "abs" = some none)
    (z_range : PySem.W.nsIn K mainGlobals "range" = some none)
    (z_zip : PySem.W.nsIn K mainGlobals "zip" = some none)
    (z_repr : PySem.W.nsIn K mainGlobals "repr" = some none)
    (z_any : PySem.W.nsIn K mainGlobals "any" = some none)
    (z_sorted : PySem.W.nsIn K mainGlobals "sorted" = some none)
    (z_str : PySem.W.nsIn K mainGlobals "str" = some none)
    {thML : Tok} (zhML : PySem.W.nsIn K mainGlobals "MOST_LETTERS" = some (some (.int 64 thML)))
    : ∃ fd : FuncData, (∀ (s : Shared) (v : Value), BindsTo s fd ⟨[v], []⟩ [("_law_script", v)]) ∧ ∀ base : Heap, K.In base → base.Ns mainGlobals mg → FnOk l.prog w K mg base (L2.CX l.prog w) 13 fa fd ["_law_script"] (SpC K C_law) := by
  have T : Txt mg := ⟨PySem.W.mg_none_of X G z_len, PySem.W.mg_none_of X G z_isinstance, PySem.W.mg_none_of X G z_all, PySem.W.mg_none_of X G z_int, PySem.W.mg_none_of X G z_bool, PySem.W.mg_none_of X G z_tuple, PySem.W.mg_none_of X G z_list, PySem.W.mg_none_of X G z_sum, PySem.W.mg_none_of X G z_max, PySem.W.mg_none_of X G z_min, PySem.W.mg_none_of X G z_abs, PySem.W.mg_none_of X G z_range, PySem.W.mg_none_of X G z_zip, PySem.W.mg_none_of X G z_repr, PySem.W.mg_none_of X G z_any, PySem.W.mg_none_of X G z_sorted, PySem.W.mg_none_of X G z_str⟩
  have hML : ∃ t, mg "MOST_LETTERS" = some (.int 64 t) := ⟨_, PySem.W.mg_of X G zhML⟩
  have mS : mg "SheetError" = some (.ref cS) := PySem.W.mg_of X G eS
  have m_InvalidPicture := PySem.W.mg_of X G e_InvalidPicture.nm
  obtain ⟨fI, TX_InvalidPicture⟩ := e_InvalidPicture.txt mg m_InvalidPicture
  have CL_InvalidPicture : Cls K mg cS "InvalidPicture" cI := ⟨m_InvalidPicture, e_InvalidPicture.tab, e_InvalidPicture.exm, i_InvalidPicture⟩
  have m_InvalidDepth := PySem.W.mg_of X G e_InvalidDepth.nm
  obtain ⟨fD, TX_InvalidDepth⟩ := e_InvalidDepth.txt mg m_InvalidDepth
  have CL_InvalidDepth : Cls K mg cS "InvalidDepth" cD := ⟨m_InvalidDepth, e_InvalidDepth.tab, e_InvalidDepth.exm, i_InvalidDepth⟩
  obtain ⟨f, fd, a, F⟩ := T_law
  have e := hfa.symm.trans (PySem.W.mg_of X G a)
  cases e
  obtain ⟨oc, od, kV, doc, pm, an, cdv, ct, osl, rfl, hlk⟩ := F.ex
  refine ⟨PySem.W.fnOf "law" "law" (defArgs s_law) (defBody s_law) (defScope s_law) .none kV doc pm an cdv ct, fun s v => .of_eq rfl, fun base _ _ => ?_⟩
  have F_is_int := T_is_int.fn (base := base) X G (fun f fd F => ok_is_int (P := l.prog) (w := w) (base := base) F T) (fun _ _ _ _ _ _ us hl => match us, hl with | [_], _ => rfl)
  have F_is_shelf := T_is_shelf.fn (base := base) X G (fun f fd F => ok_is_shelf (P := l.prog) (w := w) (base := base) F T hML) (fun _ _ _ _ _ _ us hl => match us, hl with | [_], _ => rfl)
  have F_are_shades := T_are_shades.fn (base := base) X G (fun f fd F => ok_are_shades (P := l.prog) (w := w) (base := base) F T) (fun _ _ _ _ _ _ us hl => match us, hl with | [_], _ => rfl)
  have F_are_blocks := T_are_blocks.fn (base := base) X G (fun f fd F => ok_are_blocks (P := l.prog) (w := w) (base := base) F T) (fun _ _ _ _ _ _ us hl => match us, hl with | [_, _], _ => rfl)
  have F_is_picture := T_is_picture.fn (base := base) X G (fun f fd F => ok_is_picture (P := l.prog) (w := w) (base := base) F T F_is_shelf F_is_int F_are_shades F_are_blocks) (fun _ _ _ _ _ _ us hl => match us, hl with | [_], _ => rfl)
  have F_anew_0 := T_anew.fn (base := base) X G (fun f fd F => ok_anew (P := l.prog) (w := w) (base := base) (n := 0) F T (.inl rfl)) (fun _ _ _ _ _ _ us hl => match us, hl with | [_], _ => rfl)
  have F_anew_1 := T_anew.fn (base := base) X G (fun f fd F => ok_anew (P := l.prog) (w := w) (base := base) (n := 1) F T (.inr F_anew_0)) (fun _ _ _ _ _ _ us hl => match us, hl with | [_], _ => rfl)
  have F_anew_2 := T_anew.fn (base := base) X G (fun f fd F => ok_anew (P := l.prog) (w := w) (base := base) (n := 2) F T (.inr F_anew_1)) (fun _ _ _ _ _ _ us hl => match us, hl with | [_], _ => rfl)
  have F_anew_3 := T_anew.fn (base := base) X G (fun f fd F => ok_anew (P := l.prog) (w := w) (base := base) (n := 3) F T (.inr F_anew_2)) (fun _ _ _ _ _ _ us hl => match us, hl with | [_], _ => rfl)
  have F_anew_4 := T_anew.fn (base := base) X G (fun f fd F => ok_anew (P := l.prog) (w := w) (base := base) (n := 4) F T (.inr F_anew_3)) (fun _ _ _ _ _ _ us hl => match us, hl with | [_], _ => rfl)
  have F_anew_5 := T_anew.fn (base := base) X G (fun f fd F => ok_anew (P := l.prog) (w := w) (base := base) (n := 5) F T (.inr F_anew_4)) (fun _ _ _ _ _ _ us hl => match us, hl with | [_], _ => rfl)
  have F_anew_6 := T_anew.fn (base := base) X G (fun f fd F => ok_anew (P := l.prog) (w := w) (base := base) (n := 6) F T (.inr F_anew_5)) (fun _ _ _ _ _ _ us hl => match us, hl with | [_], _ => rfl)
  have F_check_picture := T_check_picture.fn (base := base) X G (fun f fd F => ok_check_picture (P := l.prog) (w := w) (base := base) F TX_InvalidPicture F_is_picture F_anew_6) (fun _ _ _ _ _ _ us hl => match us, hl with | [_], _ => rfl)
  have F_check_depth := T_check_depth.fn (base := base) X G (fun f fd F => ok_check_depth (P := l.prog) (w := w) (base := base) F TX_InvalidDepth) (fun _ _ _ _ _ _ us hl => match us, hl with | [_], _ => rfl)
  have F_ink := T_ink.fn (base := base) X G (fun f fd F => ok_ink (P := l.prog) (w := w) (base := base) F T) (fun _ _ _ _ _ _ us hl => match us, hl with | [_, _], _ => rfl)
  have F_drip := T_drip.fn (base := base) X G (fun f fd F => ok_drip (P := l.prog) (w := w) (base := base) F T) (fun _ _ _ _ _ _ us hl => match us, hl with | [_, _], _ => rfl)
  have F_same_0 := T_same.fn (base := base) X G (fun f fd F => ok_same (P := l.prog) (w := w) (base := base) (n := 0) F T (.inl rfl)) (fun _ _ _ _ _ _ us hl => match us, hl with | [_, _], _ => rfl)
  have F_same_1 := T_same.fn (base := base) X G (fun f fd F => ok_same (P := l.prog) (w := w) (base := base) (n := 1) F T (.inr F_same_0)) (fun _ _ _ _ _ _ us hl => match us, hl with | [_, _], _ => rfl)
  have F_same_2 := T_same.fn (base := base) X G (fun f fd F => ok_same (P := l.prog) (w := w) (base := base) (n := 2) F T (.inr F_same_1)) (fun _ _ _ _ _ _ us hl => match us, hl with | [_, _], _ => rfl)
  have F_order := T_order.fn (base := base) X G (fun f fd F => ok_order (P := l.prog) (w := w) (base := base) F T F_drip) (fun _ _ _ _ _ _ us hl => match us, hl with | [_, _], _ => rfl)
  have F_shades := T_shades.fn (base := base) X G (fun f fd F => ok_shades (P := l.prog) (w := w) (base := base) F T F_drip) (fun _ _ _ _ _ _ us hl => match us, hl with | [_, _], _ => rfl)
  have F_block := T_block.fn (base := base) X G (fun f fd F => ok_block (P := l.prog) (w := w) (base := base) F T F_drip) (fun _ _ _ _ _ _ us hl => match us, hl with | [_, _, _, _, _], _ => rfl)
  have F_renamed := T_renamed.fn (base := base) X G (fun f fd F => ok_renamed (P := l.prog) (w := w) (base := base) F T) (fun _ _ _ _ _ _ us hl => match us, hl with | [_, _], _ => rfl)
  have F_book := T_book.fn (base := base) X G (fun f fd F => ok_book (P := l.prog) (w := w) (base := base) F T F_drip F_block F_shades F_order F_renamed) (fun _ _ _ _ _ _ us hl => match us, hl with | [_, _, _], _ => rfl)
  have F_first_sheets := T_first_sheets.fn (base := base) X G (fun f fd F => ok_first_sheets (P := l.prog) (w := w) (base := base) F T) (fun _ _ _ _ _ _ us hl => match us, hl with | [_], _ => rfl)
  have F_next_sheets := T_next_sheets.fn (base := base) X G (fun f fd F => ok_next_sheets (P := l.prog) (w := w) (base := base) F T) (fun _ _ _ _ _ _ us hl => match us, hl with | [_, _], _ => rfl)
  have F_unfolded := T_unfolded.fn (base := base) X G (fun f fd F => ok_unfolded (P := l.prog) (w := w) (base := base) F T) (fun _ _ _ _ _ _ us hl => match us, hl with | [_, _], _ => rfl)
  have F_shade_rows := T_shade_rows.fn (base := base) X G (fun f fd F => ok_shade_rows (P := l.prog) (w := w) (base := base) F T F_unfolded) (fun _ _ _ _ _ _ us hl => match us, hl with | [_, _], _ => rfl)
  have F_sheet := T_sheet.fn (base := base) X G (fun f fd F => ok_sheet (P := l.prog) (w := w) (base := base) F F_check_picture F_check_depth F_shade_rows) (fun _ _ _ _ _ _ us hl => match us, hl with | [_, _], _ => rfl)
  have K_sheet := T_sheet.kw (base := base) X G (fun f fd F => ok_sheet (P := l.prog) (w := w) (base := base) F F_check_picture F_check_depth F_shade_rows) (fun _ _ _ _ _ _ s us hl => match us, hl with | [_, _], _ => .of_eq rfl)
  have F_sheet_right := T_sheet_right.fn (base := base) X G (fun f fd F => ok_sheet_right (P := l.prog) (w := w) (base := base) F T F_same_2 F_sheet K_sheet) (fun _ _ _ _ _ _ us hl => match us, hl with | [_, _, _], _ => rfl)
  have F_caught := T_caught.fn (base := base) X G (fun f fd F => ok_caught (P := l.prog) (w := w) (base := base) F mS CL_InvalidPicture CL_InvalidDepth F_sheet) (fun _ _ _ _ _ _ us hl => match us, hl with | [_, _], _ => rfl)
  have F_refused := T_refused.fn (base := base) X G (fun f fd F => ok_refused (P := l.prog) (w := w) (base := base) F T CL_InvalidPicture CL_InvalidDepth F_drip F_same_2 F_caught) (fun _ _ _ _ _ _ us hl => match us, hl with | [_, _], _ => rfl)
  have F_inner_right := T_inner_right.fn (base := base) X G (fun f fd F => ok_inner_right (P := l.prog) (w := w) (base := base) F T CL_InvalidPicture F_drip F_caught) (fun _ _ _ _ _ _ us hl => match us, hl with | [_, _], _ => rfl)
  have F_right := T_right.fn (base := base) X G (fun f fd F => ok_right (P := l.prog) (w := w) (base := base) F T F_drip F_book F_first_sheets F_next_sheets F_sheet_right F_refused F_inner_right) (fun _ _ _ _ _ _ us hl => match us, hl with | [_], _ => rfl)
  exact ok_law F T F_ink F_right

end Sy

open PySem PySem.W PyProof.Rows
set_option Elab.async false
set_option maxRecDepth 100000
theorem bits_lt {n : Int} (h : PySem.Builtin.Int.intBits n ≤ 1048576) : n.natAbs < 2 ^ Sy.scB := by
  unfold PySem.Builtin.Int.intBits at h
  show n.natAbs < 2 ^ 1048576
  by_cases e : n = 0
  · rw [e]; exact Nat.two_pow_pos 1048576
  · rw [if_neg (by simpa using e)] at h
    exact (Nat.log2_lt (by omega)).mp (by omega)
theorem law_spec {K : PySem.W.Frag} {H : L2.Hp} {a : Addr} {ns : List Int} (hl : ns.length ≤ 63) (hb : ∀ z ∈ ns, PySem.Builtin.Int.intBits z ≤ 1048576) (hO : L2.Only H) (hS : L2.SqL K H a (ns.map L2.V.int)) : Sy.SpC K Sy.C_law [.ref a] H (fun v _ => v = .bl true) fun _ _ _ => False := by
  have hf : Sy.FzL K H a (ns.map L2.V.int) := by
    rcases hS with (h | h) | h
    · rcases hO a with z | ⟨o, xs, z⟩
      · rw [z] at h; cases h
      · rw [z] at h; cases h
    · exact .inl h
    · exact .inr (.inr h)
  refine ⟨[.rdl (ns.map Sy.S.int)], fun _ => none, fun s _ => s = .bl true, fun _ _ _ => False, .cons (.rdl hf (Sy.RVs.ints ns)) .nil, (fun b o e => nomatch e), ⟨ns, rfl, hl, fun n hn => bits_lt (hb n hn), fun _ => rfl⟩, fun s M' v H' _ rv _ e => ?_, fun _ _ _ _ _ _ _ _ _ _ z => z.elim⟩
  subst e
  cases rv
  rfl
set_option maxHeartbeats 0 in
theorem PySem.Challenge.cw_everydepth_k02_sheets_by_their_blocks_holds : PySem.Challenge.rw_everydepth_k02_sheets_by_their_blocks.Holds := by
  w_on; o_law; k_head; (case hw => w_witness2)
  k_fill
  refine Sy.walk_g (l := PySem.Challenge.rw_everydepth_k02_sheets_by_their_blocks) (n := 63) (k := 13) (x := "_law_script") (sp := fun w => Sy.SpC _ Sy.C_law) rfl (by decide) rfl ⟨by decide, by decide, by decide⟩ (fun w h Y => PySem.W.kIn_of Y) ?F (fun _ _ a ns hl hb hO hS => law_spec hl hb hO hS)
  case F =>
    intro w mg fa h KX G hmg
    refine' Sy.all_mk KX G hmg ?eS ?e_InvalidPicture ?i_InvalidPicture ?e_InvalidDepth ?i_InvalidDepth ?T_is_int ?T_is_shelf ?T_are_shades ?T_are_blocks ?T_is_picture ?T_anew ?T_check_picture ?T_check_depth ?T_ink ?T_drip ?T_same ?T_order ?T_shades ?T_block ?T_renamed ?T_book ?T_first_sheets ?T_next_sheets ?T_unfolded ?T_shade_rows ?T_sheet ?T_sheet_right ?T_caught ?T_refused ?T_inner_right ?T_right ?T_law ?z_len ?z_isinstance ?z_all ?z_int ?z_bool ?z_tuple ?z_list ?z_sum ?z_max ?z_min ?z_abs ?z_range ?z_zip ?z_repr ?z_any ?z_sorted ?z_str ?zhML
    (case eS => k_is)
    (case e_InvalidPicture => (refine' Sy.exc_mk ?aC ?xL ?rf ?sa ?ga ?gg ?nb ?a1 ?t1 ?l1 ?c1 ?kC ?eC ?tC ?hC ?iC ?sC ?eS ?iS ?tS ?sS ?ac ?ds ?tk ?mr; (case aC => k_is); (case xL => k_is); (case rf => decide +kernel); (case sa => k_is); (case ga => k_is); (case gg => k_is); (case nb => k_is); (case a1 => k_is); (case t1 => k_is); (case l1 => k_is); (case c1 => k_is); (case kC => k_is); (case eC => k_is); (case tC => k_is); (case hC => k_is); (case iC => k_is); (case sC => first | rfl | k_is); (case eS => k_is); (case iS => k_is); (case tS => k_is); (case sS => k_is); (case ac => k_is); (case ds => k_is); (case tk => k_is); (case mr => k_is)))
    (case i_InvalidPicture => first | rfl | k_is)
    (case e_InvalidDepth => (refine' Sy.exc_mk ?aC ?xL ?rf ?sa ?ga ?gg ?nb ?a1 ?t1 ?l1 ?c1 ?kC ?eC ?tC ?hC ?iC ?sC ?eS ?iS ?tS ?sS ?ac ?ds ?tk ?mr; (case aC => k_is); (case xL => k_is); (case rf => decide +kernel); (case sa => k_is); (case ga => k_is); (case gg => k_is); (case nb => k_is); (case a1 => k_is); (case t1 => k_is); (case l1 => k_is); (case c1 => k_is); (case kC => k_is); (case eC => k_is); (case tC => k_is); (case hC => k_is); (case iC => k_is); (case sC => first | rfl | k_is); (case eS => k_is); (case iS => k_is); (case tS => k_is); (case sS => k_is); (case ac => k_is); (case ds => k_is); (case tk => k_is); (case mr => k_is)))
    (case i_InvalidDepth => first | rfl | k_is)
    (case T_is_int => (refine' Sy.top_mk ?a ?l ?c ?k; (case a => k_is); (case l => k_is); (case c => k_is); (case k => k_is)))
    (case T_is_shelf => (refine' Sy.top_mk ?a ?l ?c ?k; (case a => k_is); (case l => k_is); (case c => k_is); (case k => k_is)))
    (case T_are_shades => (refine' Sy.top_mk ?a ?l ?c ?k; (case a => k_is); (case l => k_is); (case c => k_is); (case k => k_is)))
    (case T_are_blocks => (refine' Sy.top_mk ?a ?l ?c ?k; (case a => k_is); (case l => k_is); (case c => k_is); (case k => k_is)))
    (case T_is_picture => (refine' Sy.top_mk ?a ?l ?c ?k; (case a => k_is); (case l => k_is); (case c => k_is); (case k => k_is)))
    (case T_anew => (refine' Sy.top_mk ?a ?l ?c ?k; (case a => k_is); (case l => k_is); (case c => k_is); (case k => k_is)))
    (case T_check_picture => (refine' Sy.top_mk ?a ?l ?c ?k; (case a => k_is); (case l => k_is); (case c => k_is); (case k => k_is)))
    (case T_check_depth => (refine' Sy.top_mk ?a ?l ?c ?k; (case a => k_is); (case l => k_is); (case c => k_is); (case k => k_is)))
    (case T_ink => (refine' Sy.top_mk ?a ?l ?c ?k; (case a => k_is); (case l => k_is); (case c => k_is); (case k => k_is)))
    (case T_drip => (refine' Sy.top_mk ?a ?l ?c ?k; (case a => k_is); (case l => k_is); (case c => k_is); (case k => k_is)))
    (case T_same => (refine' Sy.top_mk ?a ?l ?c ?k; (case a => k_is); (case l => k_is); (case c => k_is); (case k => k_is)))
    (case T_order => (refine' Sy.top_mk ?a ?l ?c ?k; (case a => k_is); (case l => k_is); (case c => k_is); (case k => k_is)))
    (case T_shades => (refine' Sy.top_mk ?a ?l ?c ?k; (case a => k_is); (case l => k_is); (case c => k_is); (case k => k_is)))
    (case T_block => (refine' Sy.top_mk ?a ?l ?c ?k; (case a => k_is); (case l => k_is); (case c => k_is); (case k => k_is)))
    (case T_renamed => (refine' Sy.top_mk ?a ?l ?c ?k; (case a => k_is); (case l => k_is); (case c => k_is); (case k => k_is)))
    (case T_book => (refine' Sy.top_mk ?a ?l ?c ?k; (case a => k_is); (case l => k_is); (case c => k_is); (case k => k_is)))
    (case T_first_sheets => (refine' Sy.top_mk ?a ?l ?c ?k; (case a => k_is); (case l => k_is); (case c => k_is); (case k => k_is)))
    (case T_next_sheets => (refine' Sy.top_mk ?a ?l ?c ?k; (case a => k_is); (case l => k_is); (case c => k_is); (case k => k_is)))
    (case T_unfolded => (refine' Sy.top_mk ?a ?l ?c ?k; (case a => k_is); (case l => k_is); (case c => k_is); (case k => k_is)))
    (case T_shade_rows => (refine' Sy.top_mk ?a ?l ?c ?k; (case a => k_is); (case l => k_is); (case c => k_is); (case k => k_is)))
    (case T_sheet => (refine' Sy.top_mk ?a ?l ?c ?k; (case a => k_is); (case l => k_is); (case c => k_is); (case k => k_is)))
    (case T_sheet_right => (refine' Sy.top_mk ?a ?l ?c ?k; (case a => k_is); (case l => k_is); (case c => k_is); (case k => k_is)))
    (case T_caught => (refine' Sy.top_mk ?a ?l ?c ?k; (case a => k_is); (case l => k_is); (case c => k_is); (case k => k_is)))
    (case T_refused => (refine' Sy.top_mk ?a ?l ?c ?k; (case a => k_is); (case l => k_is); (case c => k_is); (case k => k_is)))
    (case T_inner_right => (refine' Sy.top_mk ?a ?l ?c ?k; (case a => k_is); (case l => k_is); (case c => k_is); (case k => k_is)))
    (case T_right => (refine' Sy.top_mk ?a ?l ?c ?k; (case a => k_is); (case l => k_is); (case c => k_is); (case k => k_is)))
    (case T_law => (refine' Sy.top_mk ?a ?l ?c ?k; (case a => k_is); (case l => k_is); (case c => k_is); (case k => k_is)))
    (case z_len => k_is)
    (case z_isinstance => k_is)
    (case z_all => k_is)
    (case z_int => k_is)
    (case z_bool => k_is)
    (case z_tuple => k_is)
    (case z_list => k_is)
    (case z_sum => k_is)
    (case z_max => k_is)
    (case z_min => k_is)
    (case z_abs => k_is)
    (case z_range => k_is)
    (case z_zip => k_is)
    (case z_repr => k_is)
    (case z_any => k_is)
    (case z_sorted => k_is)
    (case z_str => k_is)
    (case zhML => k_is)
