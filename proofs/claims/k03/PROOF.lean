import PyProof.Rows.All
import Wide.All
import OpenK.AllK
import Wide.FinOn
import HandS.ForMost
import HandS.ForExc
import HandS.Wide
import HandS.WideBits
import HandS.Gcd
import HandS.IsInst
import HandS.Zip
import HandS.TupAny
import HandS.TupLe
import HandS.TupMul
import HandS.Flow
import HandS.Style
import HandS.Small
import HandS.Conv
import HandS.SetKeys
import HandS.Deep
import HandS.StrMore
import KE.KRevSl
import PyProof.EqKinds
import HandS.ExcIs
import HandS.HotCalls
import HandS.More
import HandS.SetBool
import KE.GoesEnum
import PySem.Challenge.RW_beatlanes_k03_what_is_a_fraction
noncomputable section
set_option Elab.async false
set_option linter.all false
set_option maxRecDepth 100000
/-! The second layer: data by value (lists too that nobody changes any more), a store for what is changed alone. What is not named by the store never changes. -/
namespace DV
open PySem PySem.Spec PyProof.Rows L2

/-- data: tuples, lists, dicts, instances by value; what is changed still by its number in the store; gl: what the module's name holds -/
inductive D where
  | non | bl (b : Bool) | int (i : Int) | str (s : Str) | tup (xs : List D) | lst (xs : List D) | dct (kvs : List (Key × D)) | dtt (kvs : List (List Key × D))
  | ins (c : Str) (ks : List Str) (vs : List D) | exc (c : Str) | ob (n : Nat) | ro (ns : List Int) | gl (x : Str)
/-- what the module's names hold, and the world -/
structure MG where
  f : Str → Option Value
  P : Program
  w : World
instance : CoeFun MG fun _ => Str → Option Value := ⟨MG.f⟩
end DV
namespace L2
abbrev Cx.M (X : Cx) : DV.MG := ⟨X.mg, X.prog, X.w⟩
end L2
namespace DV
open PySem PySem.Spec PyProof.Rows L2
/-- a mutable object -/
inductive O where
  | lst (xs : List D)
  | dic (kvs : List (Key × D))
  | dtt (kvs : List (List Key × D))
  | ins (c : Str) (ks : List Str) (vs : List D)
  | set (ks : List Key)
abbrev Sto := List O
abbrev Lc := List (Option D)

/-- a caught exception, tracked as just this object -/
def ExT (oe : Obj) (a : Addr) : HO := .ext fun h => h.get? a = some oe
/-- an exception of the class at C, without a dict of its own -/
def IsX (C : Addr) (oe : Obj) : Prop := Zc (.ref C) none oe ∧ ∃ vs, oe.data = .fields vs
/-- at a, out of the store's places, o stands for good -/
def Im (φ : List Addr) (H : Hp) (a : Addr) (o : HO) : Prop := a ∉ φ ∧ H a = some o

/-- is among them -/
def inK (ks : List Key) (k : Key) : Bool := ks.any fun j => decide (j = k)
/-- a dict whose keys are tuples, by its own object alone: its keys, where they stand, its values -/
def DTx (P : Program) (w : World) (a : Addr) (xs : List (List Key × Addr × Value)) : HO := .ext fun h => ∃ o es ep, h.get? a = some o ∧ o.ExactDict ∧ o.data = .dict es ep ∧ es.toList = xs.map (entryOfKey (tupleKind (mixKind P w)))
section
variable (K : PySem.W.Frag) (mg : MG)
/-- a tuple that stands for good -/
def ImT (φ : List Addr) (H : Hp) (a : Addr) (xs : List V) : Prop := Im φ H a (.tup xs) ∨ SqT K (fun _ => none) a xs
structure KeysT (φ : List Addr) (H : Hp) (a : Addr) (xs : List (List Key × Addr × Value)) : Prop where
  size : xs.length ≤ sizeLine
  ne : (a == sysModules) = false
  nd : (xs.map (·.1)).Nodup
  keys : ∀ x ∈ xs, ImT K φ H x.2.1 (x.1.map kV)
mutual
inductive Rp : List Addr → Hp → V → D → Prop
  | non {φ : List Addr} {H : Hp} : Rp φ H .non .non
  | bl {φ : List Addr} {H : Hp} (b : Bool) : Rp φ H (.bl b) (.bl b)
  | int {φ : List Addr} {H : Hp} (i : Int) : Rp φ H (.int i) (.int i)
  | str {φ : List Addr} {H : Hp} (s : Str) : Rp φ H (.str s) (.str s)
  | tup {φ : List Addr} {H : Hp} {a : Addr} {xs : List V} {ds : List D} : ImT K φ H a xs → Rps φ H xs ds → Rp φ H (.ref a) (.tup ds)
  | lst {φ : List Addr} {H : Hp} {a : Addr} {xs : List V} {ds : List D} : Im φ H a (.lst xs) → Rps φ H xs ds → Rp φ H (.ref a) (.lst ds)
  | dct {φ : List Addr} {H : Hp} {a : Addr} {ws : List (Key × V)} {kvs : List (Key × D)} : Im φ H a (.dK ws) → ws.map (·.1) = kvs.map (·.1) → Rps φ H (ws.map (·.2)) (kvs.map (·.2)) → Rp φ H (.ref a) (.dct kvs)
  | dtt {φ : List Addr} {H : Hp} {a : Addr} {xs : List (List Key × Addr × Value)} {ws : List V} {kvs : List (List Key × D)} : Im φ H a (DTx mg.P mg.w a xs) → KeysT K φ H a xs → xs.map (·.1) = kvs.map (·.1) → Vals ws (xs.map (·.2.2)) → Rps φ H ws (kvs.map (·.2)) → Rp φ H (.ref a) (.dtt kvs)
  | ins {φ : List Addr} {H : Hp} {a C dx : Addr} {c : Str} {ks : List Str} {vs : List V} {ds : List D} : mg c = some (.ref C) → Im φ H a (.ins C dx (ks.zip vs)) → ks.length = vs.length → Rps φ H vs ds → Rp φ H (.ref a) (.ins c ks ds)
  | exc {φ : List Addr} {H : Hp} {a C : Addr} {oe : Obj} {c : Str} : mg c = some (.ref C) → IsX C oe → Im φ H a (ExT oe a) → Rp φ H (.ref a) (.exc c)
  | ob {φ : List Addr} {H : Hp} {n : Nat} {a : Addr} : φ[n]? = some a → Rp φ H (.ref a) (.ob n)
  | ro {φ : List Addr} {H : Hp} {a : Addr} {ns : List Int} : ((∃ o, Im φ H a (.frz o (.lst (ns.map V.int)))) ∨ SqL K (fun _ => none) a (ns.map V.int)) → Rp φ H (.ref a) (.ro ns)
  | gl {φ : List Addr} {H : Hp} {a : Addr} {x : Str} : mg x = some (.ref a) → Rp φ H (.ref a) (.gl x)
inductive Rps : List Addr → Hp → List V → List D → Prop
  | nil {φ : List Addr} {H : Hp} : Rps φ H [] []
  | cons {φ : List Addr} {H : Hp} {v : V} {d : D} {vs : List V} {ds : List D} : Rp φ H v d → Rps φ H vs ds → Rps φ H (v :: vs) (d :: ds)
end
end

/-- how heaps grow: the store's places stay where they are, what they do not name stays as it is and unnamed -/
structure Ext (φ : List Addr) (H : Hp) (φ' : List Addr) (H' : Hp) : Prop where
  pre : ∀ (n : Nat) (a : Addr), φ[n]? = some a → φ'[n]? = some a
  imm : ∀ a o, a ∉ φ → H a = some o → a ∉ φ' ∧ H' a = some o
theorem Ext.rfl' {φ : List Addr} {H : Hp} : Ext φ H φ H := ⟨fun _ _ h => h, fun _ _ h q => ⟨h, q⟩⟩
theorem Ext.trans {φ φ1 φ2 : List Addr} {H H1 H2 : Hp} (a : Ext φ H φ1 H1) (b : Ext φ1 H1 φ2 H2) : Ext φ H φ2 H2 :=
  ⟨fun n x h => b.pre n x (a.pre n x h), fun x o h q => b.imm x o (a.imm x o h q).1 (a.imm x o h q).2⟩
section
variable {K : PySem.W.Frag} {mg : MG} {φ φ1 : List Addr} {H H1 : Hp}
theorem Ext.im (e : Ext φ H φ1 H1) {a : Addr} {o : HO} (h : Im φ H a o) : Im φ1 H1 a o := e.imm a o h.1 h.2
theorem ImT.mono (e : Ext φ H φ1 H1) {a : Addr} {xs : List V} : ImT K φ H a xs → ImT K φ1 H1 a xs
  | .inl h => .inl (e.im h)
  | .inr h => .inr h
theorem KeysT.mono (e : Ext φ H φ1 H1) {a : Addr} {xs : List (List Key × Addr × Value)} (k : KeysT K φ H a xs) : KeysT K φ1 H1 a xs := ⟨k.size, k.ne, k.nd, fun x hx => (k.keys x hx).mono e⟩
theorem ImT.sq {a : Addr} {xs : List V} : ImT K φ H a xs → SqT K H a xs
  | .inl h => .of h.2
  | .inr (.inl (.inl h)) => nomatch h
  | .inr (.inl (.inr ⟨_, h⟩)) => nomatch h
  | .inr (.inr h) => .inr h
mutual
theorem Rp.mono (e : Ext φ H φ1 H1) : ∀ {v : V} {d : D}, Rp K mg φ H v d → Rp K mg φ1 H1 v d
  | _, _, .non => .non
  | _, _, .bl b => .bl b
  | _, _, .int b => .int b
  | _, _, .str b => .str b
  | _, _, .tup h r => .tup (h.mono e) (Rps.mono e r)
  | _, _, .lst h r => .lst (e.im h) (Rps.mono e r)
  | _, _, .dct h k r => .dct (e.im h) k (Rps.mono e r)
  | _, _, .dtt h k q v r => .dtt (e.im h) (k.mono e) q v (Rps.mono e r)
  | _, _, .ins c h k r => .ins c (e.im h) k (Rps.mono e r)
  | _, _, .exc c x h => .exc c x (e.im h)
  | _, _, .ob h => .ob (e.pre _ _ h)
  | _, _, .ro (.inl ⟨o, h⟩) => .ro (.inl ⟨o, e.im h⟩)
  | _, _, .ro (.inr h) => .ro (.inr h)
  | _, _, .gl h => .gl h
theorem Rps.mono (e : Ext φ H φ1 H1) : ∀ {vs : List V} {ds : List D}, Rps K mg φ H vs ds → Rps K mg φ1 H1 vs ds
  | _, _, .nil => .nil
  | _, _, .cons a b => .cons (Rp.mono e a) (Rps.mono e b)
end
theorem Rps.length : ∀ {vs : List V} {ds : List D}, Rps K mg φ H vs ds → vs.length = ds.length
  | _, _, .nil => rfl
  | _, _, .cons a b => congrArg (· + 1) (Rps.length b)
theorem Rps.get : ∀ {vs : List V} {ds : List D} {i : Nat} {d : D}, Rps K mg φ H vs ds → ds[i]? = some d → ∃ v, vs[i]? = some v ∧ Rp K mg φ H v d
  | _, _, _, _, .nil, e => by simp at e
  | _, _, 0, _, .cons a b, e => by simp at e; subst e; exact ⟨_, rfl, a⟩
  | _, _, i + 1, d, .cons a b, e => by
    obtain ⟨v, h1, h2⟩ := Rps.get (i := i) b (by simpa using e)
    exact ⟨v, by simpa using h1, h2⟩
theorem Rps.get' : ∀ {vs : List V} {ds : List D} {i : Nat} {v : V}, Rps K mg φ H vs ds → vs[i]? = some v → ∃ d, ds[i]? = some d ∧ Rp K mg φ H v d
  | _, _, _, _, .nil, e => by simp at e
  | _, _, 0, _, .cons a b, e => by simp at e; subst e; exact ⟨_, rfl, a⟩
  | _, _, i + 1, d, .cons a b, e => by
    obtain ⟨v, h1, h2⟩ := Rps.get' (i := i) b (by simpa using e)
    exact ⟨v, by simpa using h1, h2⟩
theorem Rps.append : ∀ {vs ws : List V} {ds es : List D}, Rps K mg φ H vs ds → Rps K mg φ H ws es → Rps K mg φ H (vs ++ ws) (ds ++ es)
  | _, _, _, _, .nil, h => h
  | _, _, _, _, .cons a b, h => .cons a (Rps.append b h)
theorem Rps.set {v : V} {d : D} (r : Rp K mg φ H v d) : ∀ {vs : List V} {ds : List D} (i : Nat), Rps K mg φ H vs ds → Rps K mg φ H (vs.set i v) (ds.set i d)
  | _, _, _, .nil => .nil
  | _, _, 0, .cons a b => .cons r b
  | _, _, i + 1, .cons a b => .cons a (Rps.set r i b)
theorem Rps.take : ∀ {vs : List V} {ds : List D} (i : Nat), Rps K mg φ H vs ds → Rps K mg φ H (vs.take i) (ds.take i)
  | _, _, 0, _ => .nil
  | _, _, _ + 1, .nil => .nil
  | _, _, i + 1, .cons a b => .cons a (Rps.take i b)
theorem Rps.drop : ∀ {vs : List V} {ds : List D} (i : Nat), Rps K mg φ H vs ds → Rps K mg φ H (vs.drop i) (ds.drop i)
  | _, _, 0, h => h
  | _, _, _ + 1, .nil => .nil
  | _, _, i + 1, .cons a b => Rps.drop i b
theorem Rps.reverse : ∀ {vs : List V} {ds : List D}, Rps K mg φ H vs ds → Rps K mg φ H vs.reverse ds.reverse
  | _, _, .nil => .nil
  | _, _, .cons a b => by
    rw [List.reverse_cons, List.reverse_cons]
    exact Rps.append (Rps.reverse b) (.cons a .nil)
theorem Rps.flatten_replicate {vs : List V} {ds : List D} (h : Rps K mg φ H vs ds) : ∀ n, Rps K mg φ H (List.replicate n vs).flatten (List.replicate n ds).flatten
  | 0 => .nil
  | n + 1 => by
    rw [List.replicate_succ, List.replicate_succ, List.flatten_cons, List.flatten_cons]
    exact h.append (Rps.flatten_replicate h n)
end

section
variable (K : PySem.W.Frag) (mg : MG)
/-- the object of the store at a -/
def Ro (φ : List Addr) (H : Hp) (a : Addr) : O → Prop
  | .lst ds => ∃ xs, H a = some (.lst xs) ∧ Rps K mg φ H xs ds
  | .dic kvs => ∃ ws, H a = some (.dK ws) ∧ ws.map (·.1) = kvs.map (·.1) ∧ Rps K mg φ H (ws.map (·.2)) (kvs.map (·.2))
  | .dtt kvs => ∃ xs ws, H a = some (DTx mg.P mg.w a xs) ∧ KeysT K φ H a xs ∧ xs.map (·.1) = kvs.map (·.1) ∧ Vals ws (xs.map (·.2.2)) ∧ Rps K mg φ H ws (kvs.map (·.2))
  | .set ks => ks.Nodup ∧ H a = some (SetK mg.P mg.w a (inK ks) ks.length)
  | .ins c ks ds => ∃ C dx vs, mg c = some (.ref C) ∧ H a = some (.ins C dx (ks.zip vs)) ∧ Im φ H dx (.own a) ∧ ks.length = vs.length ∧ Rps K mg φ H vs ds
/-- the store -/
structure Sr (φ : List Addr) (S : Sto) (H : Hp) : Prop where
  len : φ.length = S.length
  nd : φ.Nodup
  at' : ∀ (n : Nat) (o : O), S[n]? = some o → ∃ a, φ[n]? = some a ∧ Ro K mg φ H a o
/-- the local names -/
structure Er (φ : List Addr) (H : Hp) (σ : L2.St) (ρ : Lc) : Prop where
  len : σ.length = ρ.length
  at' : ∀ (i : Nat) (d : D), ρ[i]? = some (some d) → ∃ v, σ[i]? = some (some v) ∧ Rp K mg φ H v d
end
section
variable {K : PySem.W.Frag} {mg : MG}
theorem Er.mono {φ φ1 : List Addr} {H H1 : Hp} {σ : L2.St} {ρ : Lc} (e : Ext φ H φ1 H1) (h : Er K mg φ H σ ρ) : Er K mg φ1 H1 σ ρ :=
  ⟨h.len, fun i d q => let ⟨v, h1, h2⟩ := h.at' i d q; ⟨v, h1, h2.mono e⟩⟩
theorem Er.set {φ : List Addr} {H : Hp} {σ : L2.St} {ρ : Lc} {v : V} {d : D} (h : Er K mg φ H σ ρ) (r : Rp K mg φ H v d) (i : Nat) : Er K mg φ H (σ.set i (some v)) (ρ.set i (some d)) := by
  refine ⟨by rw [List.length_set, List.length_set]; exact h.len, fun j e q => ?_⟩
  rw [List.getElem?_set] at q ⊢
  by_cases hj : i = j
  · subst hj
    rw [if_pos rfl] at q ⊢
    by_cases hl : i < ρ.length
    · rw [if_pos hl] at q
      rw [if_pos (by rw [h.len]; exact hl)]
      cases q
      exact ⟨v, rfl, r⟩
    · rw [if_neg hl] at q; cases q
  · rw [if_neg hj] at q ⊢
    exact h.at' j e q
end

/-! ### what a call leaves: the elder objects; what is younger becomes data by value -/
mutual
def frz (n : Nat) (S : Sto) : Nat → D → Option D
  | 0, _ => none
  | k + 1, .tup xs => (frzs n S k xs).map .tup
  | k + 1, .lst xs => (frzs n S k xs).map .lst
  | k + 1, .dct kvs => (frzs n S k (kvs.map (·.2))).map fun vs => .dct ((kvs.map (·.1)).zip vs)
  | k + 1, .dtt kvs => (frzs n S k (kvs.map (·.2))).map fun vs => .dtt ((kvs.map (·.1)).zip vs)
  | k + 1, .ins c ks vs => (frzs n S k vs).map (.ins c ks)
  | k + 1, .ob m => if m < n then some (.ob m) else match S[m]? with
    | some (.lst xs) => (frzs n S k xs).map .lst
    | some (.dic kvs) => (frzs n S k (kvs.map (·.2))).map fun vs => .dct ((kvs.map (·.1)).zip vs)
    | some (.dtt kvs) => (frzs n S k (kvs.map (·.2))).map fun vs => .dtt ((kvs.map (·.1)).zip vs)
    | some (.ins c ks vs) => (frzs n S k vs).map (.ins c ks)
    | some (.set _) => none
    | none => none
  | _ + 1, d => some d
def frzs (n : Nat) (S : Sto) : Nat → List D → Option (List D)
  | _, [] => some []
  | 0, _ :: _ => none
  | k + 1, d :: ds => match frz n S k d, frzs n S (k + 1) ds with
    | some e, some es => some (e :: es)
    | _, _ => none
end
def frzO (n : Nat) (S : Sto) (k : Nat) : O → Option O
  | .lst xs => (frzs n S k xs).map .lst
  | .dic kvs => (frzs n S k (kvs.map (·.2))).map fun vs => .dic ((kvs.map (·.1)).zip vs)
  | .dtt kvs => (frzs n S k (kvs.map (·.2))).map fun vs => .dtt ((kvs.map (·.1)).zip vs)
  | .ins c ks vs => (frzs n S k vs).map (.ins c ks)
  | .set ks => some (.set ks)
/-- a condition that is shown, never reckoned -/
noncomputable def gd (p : Prop) : Bool := @decide p (Classical.propDecidable p)
theorem gd_of {p : Prop} (h : p) : gd p = true := by unfold gd; exact @decide_eq_true p (Classical.propDecidable p) h
theorem of_gd {p : Prop} (h : gd p = true) : p := by unfold gd at h; exact @of_decide_eq_true p (Classical.propDecidable p) h
/-- the elder objects behind a call: what is as it was stays, what became otherwise names elder objects alone -/
noncomputable def dropOs (n : Nat) (S : Sto) (k : Nat) : List O → List O → Option (List O)
  | [], _ => some []
  | o :: os, o' :: os' => match (if gd (o' = o) then some o else frzO n S k o'), dropOs n S k os os' with
    | some e, some es => some (e :: es)
    | _, _ => none
  | _ :: _, [] => none
end DV
set_option Elab.async false
set_option linter.all false
set_option maxRecDepth 100000
namespace DV
open PySem PySem.Spec PyProof.Rows L2
section
variable {K : PySem.W.Frag} {mg : MG} {φ : List Addr} {H : Hp} {S : Sto} {n : Nat}
theorem Im.take {a : Addr} {o : HO} (h : Im φ H a o) : Im (φ.take n) H a o := ⟨fun z => h.1 (List.mem_of_mem_take z), h.2⟩
theorem nd_drop (nd : φ.Nodup) {m : Nat} {a : Addr} (hm : n ≤ m) (e : φ[m]? = some a) : a ∉ φ.take n := fun z => by
  obtain ⟨j, hj⟩ := List.getElem?_of_mem z
  rw [List.getElem?_take] at hj
  split at hj
  · rename_i hlt
    obtain ⟨l1, e1⟩ := List.getElem?_eq_some_iff.mp e
    obtain ⟨l2, e2⟩ := List.getElem?_eq_some_iff.mp hj
    rw [List.nodup_iff_pairwise_ne, List.pairwise_iff_getElem] at nd
    exact nd j m l2 l1 (by omega) (e2.trans e1.symm)
  · cases hj
theorem zip_fst {α β : Type} : ∀ {ks : List α} {vs : List β}, ks.length = vs.length → (ks.zip vs).map (·.1) = ks
  | [], [], _ => rfl
  | k :: ks, v :: vs, h => by simp [zip_fst (ks := ks) (vs := vs) (by simpa using h)]
theorem zip_snd {α β : Type} : ∀ {ks : List α} {vs : List β}, ks.length = vs.length → (ks.zip vs).map (·.2) = vs
  | [], [], _ => rfl
  | k :: ks, v :: vs, h => by simp [zip_snd (ks := ks) (vs := vs) (by simpa using h)]
theorem keys_zip {α β γ : Type} {ws : List (α × β)} {kvs : List (α × γ)} {ds : List γ} (h : ws.map (·.1) = kvs.map (·.1)) (l : (ws.map (·.2)).length = ds.length) : ws.map (·.1) = ((kvs.map (·.1)).zip ds).map (·.1) ∧ ((kvs.map (·.1)).zip ds).map (·.2) = ds := by
  have e := congrArg List.length h
  simp only [List.length_map] at e l
  exact ⟨by rw [zip_fst (by rw [List.length_map]; omega)]; exact h, zip_snd (by rw [List.length_map]; omega)⟩
theorem keys_zipT {γ : Type} {xs : List (List Key × Addr × Value)} {kvs : List (List Key × γ)} {ds : List γ} (h : xs.map (·.1) = kvs.map (·.1)) (l : ds.length = (xs.map (·.2.2)).length) : xs.map (·.1) = ((kvs.map (·.1)).zip ds).map (·.1) ∧ ((kvs.map (·.1)).zip ds).map (·.2) = ds := by
  have e := congrArg List.length h
  simp only [List.length_map] at e l
  exact ⟨by rw [zip_fst (by rw [List.length_map]; omega)]; exact h, zip_snd (by rw [List.length_map]; omega)⟩
theorem ImT.take {a : Addr} {xs : List V} : ImT K φ H a xs → ImT K (φ.take n) H a xs
  | .inl h => .inl h.take
  | .inr h => .inr h
theorem KeysT.take {a : Addr} {xs : List (List Key × Addr × Value)} (k : KeysT K φ H a xs) : KeysT K (φ.take n) H a xs := ⟨k.size, k.ne, k.nd, fun x hx => (k.keys x hx).take⟩
mutual
theorem frz_ok (s : Sr K mg φ S H) : ∀ (k : Nat) (v : V) (d e : D), Rp K mg φ H v d → frz n S k d = some e → Rp K mg (φ.take n) H v e
  | 0, _, _, _, _, h => by simp [frz] at h
  | k + 1, v, d, e, r, h => by
    cases d with
    | non => cases r; simp [frz] at h; subst h; exact .non
    | bl b => cases r; simp [frz] at h; subst h; exact .bl b
    | int b => cases r; simp [frz] at h; subst h; exact .int b
    | str b => cases r; simp [frz] at h; subst h; exact .str b
    | gl x => cases r with | gl q => simp [frz] at h; subst h; exact .gl q
    | exc c => cases r with | exc hc hx q => simp [frz] at h; subst h; exact .exc hc hx q.take
    | ro ns =>
      simp [frz] at h; subst h
      cases r with
      | ro q => exact .ro (q.imp (fun ⟨o, z⟩ => ⟨o, z.take⟩) id)
    | tup xs =>
      simp only [frz, Option.map_eq_some_iff] at h
      obtain ⟨es, h1, rfl⟩ := h
      cases r with
      | tup t rs => exact .tup (t.imp Im.take id) (frzs_ok s k _ _ _ rs h1)
    | lst xs =>
      simp only [frz, Option.map_eq_some_iff] at h
      obtain ⟨es, h1, rfl⟩ := h
      cases r with
      | lst t rs => exact .lst t.take (frzs_ok s k _ _ _ rs h1)
    | dct kvs =>
      simp only [frz, Option.map_eq_some_iff] at h
      obtain ⟨es, h1, rfl⟩ := h
      cases r with
      | dct t kk rs =>
        have r2 := frzs_ok s k _ _ _ rs h1
        obtain ⟨e1, e2⟩ := keys_zip kk r2.length
        exact .dct t.take e1 (by rw [e2]; exact r2)
    | dtt kvs =>
      simp only [frz, Option.map_eq_some_iff] at h
      obtain ⟨es, h1, rfl⟩ := h
      cases r with
      | dtt t kt kk vv rs =>
        have r2 := frzs_ok s k _ _ _ rs h1
        obtain ⟨e1, e2⟩ := keys_zipT kk (by rw [← r2.length]; exact vv.length)
        exact .dtt t.take kt.take e1 vv (by rw [e2]; exact r2)
    | ins c ks vs =>
      simp only [frz, Option.map_eq_some_iff] at h
      obtain ⟨es, h1, rfl⟩ := h
      cases r with
      | ins hc t kk rs => exact .ins hc t.take kk (frzs_ok s k _ _ _ rs h1)
    | ob m =>
      simp only [frz] at h
      cases r with
      | ob hm =>
      split at h
      · rename_i hlt
        cases h
        exact .ob (by rw [List.getElem?_take, if_pos hlt]; exact hm)
      · rename_i hge
        have nt := nd_drop (n := n) s.nd (by omega) hm
        split at h
        · rename_i xs hx
          simp only [Option.map_eq_some_iff] at h
          obtain ⟨es, h1, rfl⟩ := h
          obtain ⟨a, ha, ws, g, rs⟩ := s.at' _ _ hx
          rw [hm] at ha; cases ha
          exact .lst ⟨nt, g⟩ (frzs_ok s k _ _ _ rs h1)
        · rename_i kvs hx
          simp only [Option.map_eq_some_iff] at h
          obtain ⟨es, h1, rfl⟩ := h
          obtain ⟨a, ha, ws, g, kk, rs⟩ := s.at' _ _ hx
          rw [hm] at ha; cases ha
          have r2 := frzs_ok s k _ _ _ rs h1
          obtain ⟨e1, e2⟩ := keys_zip kk r2.length
          exact .dct ⟨nt, g⟩ e1 (by rw [e2]; exact r2)
        · rename_i kvs hx
          simp only [Option.map_eq_some_iff] at h
          obtain ⟨es, h1, rfl⟩ := h
          obtain ⟨a, ha, xs, ws, g, kt, kk, vv, rs⟩ := s.at' _ _ hx
          rw [hm] at ha; cases ha
          have r2 := frzs_ok s k _ _ _ rs h1
          obtain ⟨e1, e2⟩ := keys_zipT kk (by rw [← r2.length]; exact vv.length)
          exact .dtt ⟨nt, g⟩ kt.take e1 vv (by rw [e2]; exact r2)
        · rename_i c ks vs hx
          simp only [Option.map_eq_some_iff] at h
          obtain ⟨es, h1, rfl⟩ := h
          obtain ⟨a, ha, C, dx, us, hc, g, _, kk, rs⟩ := s.at' _ _ hx
          rw [hm] at ha; cases ha
          exact .ins hc ⟨nt, g⟩ kk (frzs_ok s k _ _ _ rs h1)
        · cases h
        · cases h
theorem frzs_ok (s : Sr K mg φ S H) : ∀ (k : Nat) (vs : List V) (ds es : List D), Rps K mg φ H vs ds → frzs n S k ds = some es → Rps K mg (φ.take n) H vs es
  | k, _, [], es, r, h => by
    cases r
    cases k <;> (simp [frzs] at h; subst h; exact .nil)
  | 0, _, _ :: _, _, _, h => by simp [frzs] at h
  | k + 1, vs, d :: ds, es, r, h => by
    cases r with
    | cons r1 r2 =>
      simp only [frzs] at h
      split at h
      · rename_i e es' h1 h2
        cases h
        exact .cons (frz_ok s k _ _ _ r1 h1) (frzs_ok s (k + 1) _ _ _ r2 h2)
      · cases h
end
theorem frzO_ok (s : Sr K mg φ S H) {k : Nat} {a : Addr} : ∀ {o e : O}, Ro K mg φ H a o → frzO n S k o = some e → Ro K mg (φ.take n) H a e
  | .lst xs, e, ⟨ws, g, r⟩, h => by
    simp only [frzO, Option.map_eq_some_iff] at h
    obtain ⟨es, h1, rfl⟩ := h
    exact ⟨ws, g, frzs_ok s k _ _ _ r h1⟩
  | .dic xs, e, ⟨ws, g, kk, r⟩, h => by
    simp only [frzO, Option.map_eq_some_iff] at h
    obtain ⟨es, h1, rfl⟩ := h
    have r2 := frzs_ok s k _ _ _ r h1
    obtain ⟨e1, e2⟩ := keys_zip kk r2.length
    exact ⟨ws, g, e1, by rw [e2]; exact r2⟩
  | .dtt _, e, ⟨xs, ws, g, kt, kk, vv, r⟩, h => by
    simp only [frzO, Option.map_eq_some_iff] at h
    obtain ⟨es, h1, rfl⟩ := h
    have r2 := frzs_ok s k _ _ _ r h1
    obtain ⟨e1, e2⟩ := keys_zipT kk (by rw [← r2.length]; exact vv.length)
    exact ⟨xs, ws, g, kt.take, e1, vv, by rw [e2]; exact r2⟩
  | .set ks, e, q, h => by
    simp only [frzO, Option.some.injEq] at h
    subst h
    exact q
  | .ins c ks vs, e, ⟨C, dx, us, hc, g, hd, kk, r⟩, h => by
    simp only [frzO, Option.map_eq_some_iff] at h
    obtain ⟨es, h1, rfl⟩ := h
    exact ⟨C, dx, us, hc, g, hd.take, kk, frzs_ok s k _ _ _ r h1⟩
/-- the caller's places are the callee's first ones -/
theorem Ext.take_eq {φ1 : List Addr} {H1 : Hp} (e : Ext φ H φ1 H1) : φ1.take φ.length = φ := by
  refine List.ext_getElem? fun i => ?_
  rw [List.getElem?_take]
  split
  · rename_i hlt
    rw [List.getElem?_eq_getElem hlt]
    exact e.pre i _ (List.getElem?_eq_getElem hlt)
  · rename_i hge
    exact (List.getElem?_eq_none_iff.mpr (by omega)).symm
theorem Ext.back {φ1 : List Addr} {H1 : Hp} (e : Ext φ H φ1 H1) : Ext φ H φ H1 := ⟨fun _ _ h => h, fun a o h q => ⟨h, (e.imm a o h q).2⟩⟩
end
section
variable {K : PySem.W.Frag} {mg : MG} {φ φ1 : List Addr} {H0 H1 : Hp} {S0 S1 : Sto}
theorem Im.back (q : φ1.take φ.length = φ) {a : Addr} {o : HO} (h : Im φ1 H1 a o) : Im φ H1 a o := by
  rw [← q]; exact h.take
theorem at_back (q : φ1.take φ.length = φ) {n : Nat} {a b : Addr} (h0 : φ[n]? = some a) (h1 : φ1[n]? = some b) : φ[n]? = some b := by
  have hl := (List.getElem?_eq_some_iff.mp h0).1
  rw [← q, List.getElem?_take, if_pos hl]
  exact h1
mutual
theorem Rp.back (q : φ1.take φ.length = φ) : ∀ {u v : V} {d : D}, Rp K mg φ H0 u d → Rp K mg φ1 H1 v d → Rp K mg φ H1 v d
  | _, _, _, .non, .non => .non
  | _, _, _, .bl b, .bl _ => .bl b
  | _, _, _, .int b, .int _ => .int b
  | _, _, _, .str b, .str _ => .str b
  | _, _, _, .tup _ r, .tup t s => .tup (t.imp (Im.back q) id) (Rps.back q r s)
  | _, _, _, .lst _ r, .lst t s => .lst (Im.back q t) (Rps.back q r s)
  | _, _, _, .dct _ _ r, .dct t k s => .dct (Im.back q t) k (Rps.back q r s)
  | _, _, _, .dtt _ _ _ _ r, .dtt t kt k v s => .dtt (Im.back q t) ⟨kt.size, kt.ne, kt.nd, fun x hx => (kt.keys x hx).imp (Im.back q) id⟩ k v (Rps.back q r s)
  | _, _, _, .ins _ _ _ r, .ins c t k s => .ins c (Im.back q t) k (Rps.back q r s)
  | _, _, _, .exc _ _ _, .exc c x t => .exc c x (Im.back q t)
  | _, _, _, .ob h, .ob h1 => .ob (at_back q h h1)
  | _, _, _, .ro _, .ro h => .ro (h.imp (fun ⟨o, z⟩ => ⟨o, Im.back q z⟩) id)
  | _, _, _, .gl _, .gl h => .gl h
theorem Rps.back (q : φ1.take φ.length = φ) : ∀ {us vs : List V} {ds : List D}, Rps K mg φ H0 us ds → Rps K mg φ1 H1 vs ds → Rps K mg φ H1 vs ds
  | _, _, _, .nil, .nil => .nil
  | _, _, _, .cons a b, .cons c d => .cons (Rp.back q a c) (Rps.back q b d)
end
theorem Ro.back (q : φ1.take φ.length = φ) {a : Addr} : ∀ {o : O}, Ro K mg φ H0 a o → Ro K mg φ1 H1 a o → Ro K mg φ H1 a o
  | .lst _, ⟨_, _, r⟩, ⟨ws, g, r1⟩ => ⟨ws, g, Rps.back q r r1⟩
  | .dic _, ⟨_, _, _, r⟩, ⟨ws, g, k, r1⟩ => ⟨ws, g, k, Rps.back q r r1⟩
  | .dtt _, ⟨_, _, _, _, _, _, r⟩, ⟨xs, ws, g, kt, k, v, r1⟩ => ⟨xs, ws, g, ⟨kt.size, kt.ne, kt.nd, fun x hx => (kt.keys x hx).imp (Im.back q) id⟩, k, v, Rps.back q r r1⟩
  | .ins _ _ _, ⟨_, _, _, _, _, _, _, r⟩, ⟨C, dx, us, hc, g, hd, k, r1⟩ => ⟨C, dx, us, hc, g, Im.back q hd, k, Rps.back q r r1⟩
  | .set _, _, h => h
theorem dropOs_get {n k : Nat} {S : Sto} : ∀ {os os' es : List O}, dropOs n S k os os' = some es → es.length = os.length ∧ ∀ (i : Nat) (e : O), es[i]? = some e → ∃ o o', os[i]? = some o ∧ os'[i]? = some o' ∧ ((o' = o ∧ e = o) ∨ frzO n S k o' = some e)
  | [], _, es, h => by
    simp only [dropOs, Option.some.injEq] at h
    subst h
    exact ⟨rfl, fun i e q => by simp at q⟩
  | _ :: _, [], es, h => by simp [dropOs] at h
  | o :: os, o' :: os', es, h => by
    simp only [dropOs] at h
    split at h
    · rename_i e1 es1 h1 h2
      cases h
      obtain ⟨l, g⟩ := dropOs_get h2
      refine ⟨by rw [List.length_cons, List.length_cons, l], fun i e q => ?_⟩
      cases i with
      | zero =>
        simp at q; subst q
        refine ⟨o, o', rfl, rfl, ?_⟩
        split at h1
        · rename_i hg
          cases h1
          exact .inl ⟨of_gd hg, rfl⟩
        · exact .inr h1
      | succ i => exact let ⟨u, u', a, b, c⟩ := g i e (by simpa using q); ⟨u, u', by simpa using a, by simpa using b, c⟩
    · cases h
/-- behind a call: the value and the store as the caller has them -/
theorem call_end {T : Sto} {v : V} {d e : D} {k j : Nat} (s0 : Sr K mg φ S0 H0) (x : Ext φ H0 φ1 H1) (s : Sr K mg φ1 S1 H1) (r : Rp K mg φ1 H1 v d)
    (h1 : frz S0.length S1 k d = some e) (h2 : dropOs S0.length S1 j S0 S1 = some T) : Ext φ H0 φ H1 ∧ Sr K mg φ T H1 ∧ Rp K mg φ H1 v e := by
  have q : φ1.take φ.length = φ := x.take_eq
  have g1 := frz_ok (n := S0.length) s k v d e r h1
  rw [← s0.len, q] at g1
  obtain ⟨l, g⟩ := dropOs_get h2
  refine ⟨x.back, ⟨by rw [l, s0.len], s0.nd, fun i o hi => ?_⟩, g1⟩
  obtain ⟨o0, o1, e0, e1, z⟩ := g i o hi
  obtain ⟨a, ha, r0⟩ := s0.at' i o0 e0
  obtain ⟨b, hb, r1⟩ := s.at' i o1 e1
  obtain rfl : a = b := by have := x.pre i a ha; rw [hb] at this; exact (Option.some.inj this).symm
  refine ⟨a, ha, ?_⟩
  rcases z with ⟨rfl, rfl⟩ | z
  · exact r0.back q r1
  · have := frzO_ok (n := S0.length) s r1 z
    rw [← s0.len, q] at this
    exact this
end
end DV
set_option Elab.async false
set_option linter.all false
set_option maxRecDepth 100000
namespace DV
open PySem PySem.Spec PyProof.Rows L2

/-! ### results: a value, or an exception of the class of this name -/
inductive Res (α : Type) where
  | ok (a : α) (S : Sto)
  | ex (c : Str) (S : Sto)
  | no
def Res.bind {α β : Type} (r : Res α) (k : α → Sto → Res β) : Res β :=
  match r with
  | .ok a S => k a S
  | .ex c S => .ex c S
  | .no => .no
abbrev Rl (α β : Type) := List Addr → Hp → β → α → Prop
abbrev RB : Rl Bool Bool := fun _ _ x b => x = b
/-- the class of this name -/
def ClsAt (mg : MG) (c : Str) (Q : Value → Prop) : Prop := ∃ C, mg c = some (.ref C) ∧ Q (.ref C)
theorem ClsAt.imp {mg : MG} {c : Str} {Q Q' : Value → Prop} (h : ∀ v, Q v → Q' v) : ClsAt mg c Q → ClsAt mg c Q' := fun ⟨C, e, q⟩ => ⟨C, e, h _ q⟩

section
variable {α β : Type} (R : Rl α β) (K : PySem.W.Frag) (mg : MG) (W : WX)
def post (φ : List Addr) (H : Hp) (σ : L2.St) (Q : β → Hp → Prop) : Res α → Prop
  | .ok a S' => ∀ φ' H' x, Ext φ H φ' H' → Sr K mg φ' S' H' → R φ' H' x a → Q x H'
  | .ex c S' => ClsAt mg c fun cls => ∀ φ' H', Ext φ H φ' H' → Sr K mg φ' S' H' → W cls none σ H'
  | .no => False
def lf (f : Lc → Sto → Res α) : L2.St → Hp → (β → Hp → Prop) → Prop := fun σ H Q => ∃ φ ρ S, Er K mg φ H σ ρ ∧ Sr K mg φ S H ∧ post R K mg W φ H σ Q (f ρ S)
end
section
variable {α β : Type} {R : Rl α β} {K : PySem.W.Frag} {mg : MG} {W : WX} {φ φ1 : List Addr} {H H1 : Hp} {σ : L2.St}
theorem post.mono {Q : β → Hp → Prop} (e : Ext φ H φ1 H1) : ∀ {r : Res α}, post R K mg W φ H σ Q r → post R K mg W φ1 H1 σ Q r
  | .ok _ _, h => fun φ' H' x e' => h φ' H' x (e.trans e')
  | .ex _ _, ⟨C, e1, q⟩ => ⟨C, e1, fun φ' H' e' => q φ' H' (e.trans e')⟩
  | .no, h => h
theorem post.imp {Q Q' : β → Hp → Prop} (hq : ∀ x H, Q x H → Q' x H) : ∀ {r : Res α}, post R K mg W φ H σ Q r → post R K mg W φ H σ Q' r
  | .ok _ _, h => fun φ' H' x e' s r => hq _ _ (h φ' H' x e' s r)
  | .ex _ _, h => h
  | .no, h => h
theorem lf.imp {Q Q' : β → Hp → Prop} {f : Lc → Sto → Res α} (hq : ∀ x H, Q x H → Q' x H) (h : lf R K mg W f σ H Q) : lf R K mg W f σ H Q' :=
  let ⟨φ, ρ, S, er, sr, p⟩ := h
  ⟨φ, ρ, S, er, sr, p.imp hq⟩
/-- THE STEP: the first part is run, then what is left -/
theorem lf.bind {γ δ : Type} {R2 : Rl γ δ} {Q : δ → Hp → Prop} {f : Lc → Sto → Res α} {k : α → Sto → Res γ} {ρ : Lc} {S : Sto} (er : Er K mg φ H σ ρ) (sr : Sr K mg φ S H) (p : post R2 K mg W φ H σ Q ((f ρ S).bind k)) :
    lf R K mg W f σ H fun x H1 => ∃ φ1 S1 a, Ext φ H φ1 H1 ∧ Sr K mg φ1 S1 H1 ∧ R φ1 H1 x a ∧ post R2 K mg W φ1 H1 σ Q (k a S1) := by
  refine ⟨φ, ρ, S, er, sr, ?_⟩
  cases e : f ρ S with
  | ok a S1 =>
    rw [e] at p
    exact fun φ' H' x e' s r => ⟨φ', S1, a, e', s, r, post.mono e' p⟩
  | ex c S1 => rw [e] at p; exact p
  | no => rw [e] at p; exact p
end
/-- an expression, arguments, a test, as functions of data -/
abbrev lE (K : PySem.W.Frag) (mg : MG) (W : WX) (f : Lc → Sto → Res D) : TE := lf (Rp K mg) K mg W f
abbrev lA (K : PySem.W.Frag) (mg : MG) (W : WX) (f : Lc → Sto → Res (List D)) : TA := lf (Rps K mg) K mg W f
abbrev lT (K : PySem.W.Frag) (mg : MG) (W : WX) (f : Lc → Sto → Res Bool) : TT := lf RB K mg W f
abbrev EF := Lc → Sto → Res D
abbrev AF := Lc → Sto → Res (List D)
abbrev TF := Lc → Sto → Res Bool
def DE (X : Cx) (W : WX) (e : Expr) (f : EF) : Prop := PE X e (lE X.K X.M W f)
def DA (X : Cx) (W : WX) (es : List Expr) (f : AF) : Prop := PA X es (lA X.K X.M W f)
def DT (X : Cx) (W : WX) (e : Expr) (f : TF) : Prop := PT X e (lT X.K X.M W f)
theorem pe_wk {X : Cx} {e : Expr} {t t' : TE} (h : PE X e t) (q : ∀ σ H Q, t' σ H Q → t σ H Q) : PE X e t' := ⟨fun pins s σ H Q I z => h.run pins s σ H Q I (q σ H Q z)⟩
theorem pa_wk {X : Cx} {e : List Expr} {t t' : TA} (h : PA X e t) (q : ∀ σ H Q, t' σ H Q → t σ H Q) : PA X e t' := ⟨fun pos pins s σ H Q I z => h.run pos pins s σ H Q I (q σ H Q z)⟩
theorem pt_wk {X : Cx} {e : Expr} {t t' : TT} (h : PT X e t) (q : ∀ σ H Q, t' σ H Q → t σ H Q) : PT X e t' := ⟨fun pins s σ H Q I z => h.run pins s σ H Q I (q σ H Q z)⟩
theorem ps_wk {X : Cx} {e : Stmt} {t t' : TS} (h : PS X e t) (q : ∀ D σ H, t' D σ H → t D σ H) : PS X e t' := ⟨fun pins s σ H Q I z => h.run pins s σ H Q I (q Q σ H z)⟩
theorem pss_wk {X : Cx} {e : List Stmt} {t t' : TS} (h : PSs X e t) (q : ∀ D σ H, t' D σ H → t D σ H) : PSs X e t' := ⟨fun pins s σ H Q I z => h.run pins s σ H Q I (q Q σ H z)⟩

theorem nd_inj {α : Type} {l : List α} (h : l.Nodup) {i j : Nat} (hi : i < l.length) (hj : j < l.length) (e : l[i] = l[j]) : i = j := by
  rw [List.nodup_iff_pairwise_ne, List.pairwise_iff_getElem] at h
  rcases Nat.lt_trichotomy i j with c | c | c
  · exact absurd e (h i j hi hj c)
  · exact c
  · exact absurd e.symm (h j i hj hi c)
/-! ### heaps -/
section
variable {K : PySem.W.Frag} {mg : MG} {φ : List Addr} {H : Hp} {S : Sto}
theorem Ext.new {p : Addr} {o : HO} (hp : H p = none) : Ext φ H φ (upd H p o) :=
  ⟨fun _ _ h => h, fun a u h q => ⟨h, by rw [upd_ne (ne_of_none q hp)]; exact q⟩⟩
theorem Ext.newSnoc {p : Addr} {o : HO} (hp : H p = none) : Ext φ H (φ ++ [p]) (upd H p o) :=
  ⟨fun n a h => by rw [List.getElem?_append_left (List.getElem?_eq_some_iff.mp h).1]; exact h, fun a u h q => by
    have z := ne_of_none q hp
    exact ⟨fun m => (List.mem_append.mp m).elim h fun w => z (by simpa using w), by rw [upd_ne z]; exact q⟩⟩
theorem Ext.put {n : Nat} {a : Addr} {o : HO} (hn : φ[n]? = some a) : Ext φ H φ (upd H a o) :=
  ⟨fun _ _ h => h, fun b u h q => ⟨h, by rw [upd_ne (fun z => h (by rw [z]; exact List.mem_of_getElem? hn))]; exact q⟩⟩
theorem Ro.mono {φ1 : List Addr} {H1 : Hp} {a : Addr} (e : Ext φ H φ1 H1) (h : H1 a = H a) : ∀ {o : O}, Ro K mg φ H a o → Ro K mg φ1 H1 a o
  | .lst _, ⟨xs, h1, r⟩ => ⟨xs, by rw [h]; exact h1, r.mono e⟩
  | .dic _, ⟨xs, h1, k, r⟩ => ⟨xs, by rw [h]; exact h1, k, r.mono e⟩
  | .dtt _, ⟨xs, ws, h1, kt, k, v, r⟩ => ⟨xs, ws, by rw [h]; exact h1, kt.mono e, k, v, r.mono e⟩
  | .set _, ⟨n, h1⟩ => ⟨n, by rw [h]; exact h1⟩
  | .ins _ _ _, ⟨C, dx, vs, hc, h1, hd, k, r⟩ => ⟨C, dx, vs, hc, by rw [h]; exact h1, e.im hd, k, r.mono e⟩
theorem Ro.some {a : Addr} : ∀ {o : O}, Ro K mg φ H a o → ∃ u, H a = some u ∧ Mut (H a)
  | .lst _, ⟨xs, h1, r⟩ => ⟨_, h1, by rw [h1]; trivial⟩
  | .dic _, ⟨xs, h1, k, r⟩ => ⟨_, h1, by rw [h1]; trivial⟩
  | .dtt _, ⟨xs, ws, h1, kt, k, v, r⟩ => ⟨_, h1, by rw [h1]; trivial⟩
  | .set _, ⟨n, h1⟩ => ⟨_, h1, by rw [h1]; trivial⟩
  | .ins _ _ _, ⟨C, dx, vs, hc, h1, _⟩ => ⟨_, h1, by rw [h1]; trivial⟩
theorem Sr.mem (s : Sr K mg φ S H) {p : Addr} (h : p ∈ φ) : ∃ u, H p = some u := by
  obtain ⟨n, hn⟩ := List.getElem?_of_mem h
  have hl : n < S.length := by rw [← s.len]; exact (List.getElem?_eq_some_iff.mp hn).1
  obtain ⟨a, h1, r⟩ := s.at' n _ (List.getElem?_eq_getElem hl)
  rw [hn] at h1
  cases h1
  obtain ⟨u, h2, _⟩ := r.some
  exact ⟨u, h2⟩
theorem Sr.fresh (s : Sr K mg φ S H) {p : Addr} (hp : H p = none) : p ∉ φ := fun h => by
  obtain ⟨u, h2⟩ := s.mem h
  rw [hp] at h2; cases h2
/-- a new object that stands for good -/
theorem Sr.im (s : Sr K mg φ S H) {p : Addr} {o : HO} (hp : H p = none) : Im φ (upd H p o) p o := ⟨s.fresh hp, upd_same⟩
/-- a new object that the store does not name -/
theorem Sr.new (s : Sr K mg φ S H) {p : Addr} {o : HO} (hp : H p = none) : Sr K mg φ S (upd H p o) :=
  ⟨s.len, s.nd, fun n o' h => by
    obtain ⟨a, h1, r⟩ := s.at' n o' h
    exact ⟨a, h1, r.mono (Ext.new hp) (upd_ne fun z => by subst z; exact s.fresh hp (List.mem_of_getElem? h1))⟩⟩
/-- a new object of the store -/
theorem Sr.snoc (s : Sr K mg φ S H) {p : Addr} {o : HO} {u : O} (hp : H p = none) (r : Ro K mg (φ ++ [p]) (upd H p o) p u) : Sr K mg (φ ++ [p]) (S ++ [u]) (upd H p o) := by
  refine ⟨by rw [List.length_append, List.length_append, s.len]; rfl, ?_, fun n o' h => ?_⟩
  · rw [List.nodup_append]
    exact ⟨s.nd, by simp, fun a ha b hb => by
      have : b = p := by simpa using hb
      subst this
      rintro rfl
      exact s.fresh hp ha⟩
  · by_cases hn : n < S.length
    · rw [List.getElem?_append_left hn] at h
      obtain ⟨a, h1, r1⟩ := s.at' n o' h
      refine ⟨a, by rw [List.getElem?_append_left (by rw [s.len]; exact hn)]; exact h1, r1.mono (Ext.newSnoc hp) (upd_ne fun z => by subst z; exact s.fresh hp (List.mem_of_getElem? h1))⟩
    · rw [List.getElem?_append_right (by omega)] at h
      have h0 : n - S.length = 0 := by
        have := (List.getElem?_eq_some_iff.mp h).1
        simp at this
        omega
      rw [h0] at h
      simp at h
      subst h
      refine ⟨p, ?_, r⟩
      rw [List.getElem?_append_right (by rw [s.len]; omega), s.len, h0]
      rfl
/-- an object of the store is changed -/
theorem Sr.put (s : Sr K mg φ S H) {n : Nat} {a : Addr} {o : HO} {u : O} (hn : φ[n]? = some a) (r : Ro K mg φ (upd H a o) a u) : Sr K mg φ (S.set n u) (upd H a o) := by
  have hl : n < S.length := by rw [← s.len]; exact (List.getElem?_eq_some_iff.mp hn).1
  refine ⟨by rw [List.length_set]; exact s.len, s.nd, fun m o' h => ?_⟩
  rw [List.getElem?_set] at h
  by_cases hm' : n = m
  · subst hm'
    rw [if_pos rfl, if_pos hl] at h
    cases h
    exact ⟨a, hn, r⟩
  · rw [if_neg hm'] at h
    obtain ⟨b, h1, r1⟩ := s.at' m o' h
    refine ⟨b, h1, r1.mono (Ext.put hn) (upd_ne fun z => hm' ?_)⟩
    subst z
    obtain ⟨l1, e1⟩ := List.getElem?_eq_some_iff.mp hn
    obtain ⟨l2, e2⟩ := List.getElem?_eq_some_iff.mp h1
    exact (nd_inj s.nd l1 l2 (e1.trans e2.symm))
theorem Sr.lst (s : Sr K mg φ S H) {n : Nat} {a : Addr} {ds : List D} (hn : φ[n]? = some a) (h : S[n]? = some (.lst ds)) : ∃ xs, H a = some (.lst xs) ∧ Rps K mg φ H xs ds := by
  obtain ⟨b, h1, r1⟩ := s.at' n _ h
  rw [hn] at h1; cases h1
  exact r1
theorem at_snoc (s : Sr K mg φ S H) (q : Addr) : (φ ++ [q])[S.length]? = some q := by
  rw [List.getElem?_append_right (by rw [s.len]; exact Nat.le_refl _), s.len, Nat.sub_self]; rfl
/-- a list, by value or of the store -/
def lstOf : D → Sto → Option (List D)
  | .lst xs, _ => some xs
  | .ob n, S => match S[n]? with | some (.lst xs) => some xs | _ => none
  | _, _ => none
theorem lstOf_ok (s : Sr K mg φ S H) {v : V} {d : D} {ds : List D} (r : Rp K mg φ H v d) (h : lstOf d S = some ds) : ∃ a xs, v = .ref a ∧ H a = some (.lst xs) ∧ Rps K mg φ H xs ds := by
  unfold lstOf at h
  split at h
  · cases h
    cases r with
    | lst t rs => exact ⟨_, _, rfl, t.2, rs⟩
  · split at h
    · rename_i xs e
      cases h
      cases r with
      | ob hn =>
        obtain ⟨us, g, rs⟩ := s.lst hn e
        exact ⟨_, us, rfl, g, rs⟩
    · cases h
  · cases h
/-- a list or a tuple -/
def seqOf : D → Sto → Option (List D)
  | .tup xs, _ => some xs
  | d, S => lstOf d S
theorem seqOf_ok (s : Sr K mg φ S H) {v : V} {d : D} {ds : List D} (r : Rp K mg φ H v d) (h : seqOf d S = some ds) : ∃ a xs, v = .ref a ∧ (SqL K H a xs ∨ SqT K H a xs) ∧ Rps K mg φ H xs ds := by
  cases d with
  | tup xs =>
    cases h
    cases r with
    | tup t rs => exact ⟨_, _, rfl, .inr t.sq, rs⟩
  | _ => exact (lstOf_ok s r h).imp fun a ⟨xs, e, q, rs⟩ => ⟨xs, e, .inl (.of q), rs⟩
end
end DV
set_option Elab.async false
set_option linter.all false
set_option maxRecDepth 100000
namespace DV
open PySem PySem.Spec PyProof.Rows L2

/-! ### names, constants -/
def eVar (i : Nat) : EF := fun ρ S => match ρ[i]? with | some (some d) => .ok d S | _ => .no
def eC (d : D) : EF := fun _ S => .ok d S
section
variable {X : Cx} {W : WX}
theorem de_var {i : Nat} {x : Str} {pos : Pos} (h : PE X (.Name x pos) (tVar i)) : DE X W (.Name x pos) (eVar i) := pe_wk h fun σ H Q z => by
  obtain ⟨φ, ρ, S, er, sr, p⟩ := z
  unfold eVar at p
  cases e : ρ[i]? with
  | none => rw [e] at p; exact p.elim
  | some o =>
    rw [e] at p
    cases o with
    | none => exact p.elim
    | some d =>
      obtain ⟨v, h1, h2⟩ := er.at' i d e
      exact ⟨v, h1, p φ H v Ext.rfl' sr h2⟩
theorem de_con {e : Expr} {v : V} {d : D} (h : PE X e (tC v)) (r : ∀ φ H, Rp X.K X.M φ H v d) : DE X W e (eC d) := pe_wk h fun σ H Q ⟨φ, ρ, S, er, sr, p⟩ => p φ H v Ext.rfl' sr (r φ H)
theorem de_int {i j pos} : DE X W (.Constant (.int i) j pos) (eC (.int i)) := de_con pe_int fun _ _ => .int i
theorem de_bl {i j pos} : DE X W (.Constant (.bool i) j pos) (eC (.bl i)) := de_con pe_bl fun _ _ => .bl i
theorem de_str {i j pos} : DE X W (.Constant (.str i) j pos) (eC (.str i)) := de_con pe_str fun _ _ => .str i
theorem de_non {j pos} : DE X W (.Constant .none j pos) (eC .non) := de_con pe_non fun _ _ => .non
end

/-! ### operators -/
abbrev OF := D → D → Sto → Res D
def eOp (o : OF) (a b : EF) : EF := fun ρ S => (a ρ S).bind fun x S1 => (b ρ S1).bind fun y S2 => o x y S2
/-- the hand layer's operator does at least what the function says -/
def Op2 (K : PySem.W.Frag) (mg : MG) (r : R2) (o : OF) : Prop := ∀ (W : WX) (φ : List Addr) (S : Sto) (H : Hp) (σ : L2.St) (x y : V) (a b : D) (Q : VK), Sr K mg φ S H → Rp K mg φ H x a → Rp K mg φ H y b → post (Rp K mg) K mg W φ H σ Q (o a b S) → r x y H Q
section
variable {X : Cx} {W : WX} {a b : Expr} {fa fb : EF} {r : R2} {o : OF}
theorem tOp_of (hr : Op2 X.K X.M r o) : ∀ σ H Q, lE X.K X.M W (eOp o fa fb) σ H Q → tOp r (lE X.K X.M W fa) (lE X.K X.M W fb) σ H Q := fun σ H Q ⟨φ, ρ, S, er, sr, p⟩ =>
  (lf.bind er sr p).imp fun x H1 ⟨φ1, S1, d, e1, sr1, r1, p1⟩ => (lf.bind (er.mono e1) sr1 p1).imp fun y H2 ⟨φ2, S2, d2, e2, sr2, r2, p2⟩ =>
    hr W φ2 S2 H2 σ x y d d2 Q sr2 (r1.mono e2) r2 p2
theorem de_op {op : Operator} {pos : Pos} (ho : OpR X (binaryOp op) r) (hr : Op2 X.K X.M r o) (ha : DE X W a fa) (hb : DE X W b fb) : DE X W (.BinOp a op b pos) (eOp o fa fb) :=
  pe_wk (pe_op ho ha hb) (tOp_of hr)
theorem de_cmp {op : CmpOp} {pos : Pos} (ho : OpR X (compareOp op) r) (hr : Op2 X.K X.M r o) (ha : DE X W a fa) (hb : DE X W b fb) (hm : behindInMarks op b = false := by first | exact nomark _ | rfl) : DE X W (.Compare a [op] [b] pos) (eOp o fa fb) :=
  pe_wk (pe_cmpR ho ha hb hm) (tOp_of hr)
end
theorem Op2.or {K : PySem.W.Frag} {mg : MG} {r r' : R2} {o o' : OF} (h : Op2 K mg r o) (h' : Op2 K mg r' o') (u : OF) (c : ∀ a b S, u a b S = o a b S ∨ u a b S = o' a b S) : Op2 K mg (fun x y H Q => r x y H Q ∨ r' x y H Q) u := fun W φ S H σ x y a b Q s ra rb p => by
  rcases c a b S with e | e
  · rw [e] at p; exact .inl (h W φ S H σ x y a b Q s ra rb p)
  · rw [e] at p; exact .inr (h' W φ S H σ x y a b Q s ra rb p)

/-- two ints -/
def oI (g : Int → Int → Option D) : OF := fun a b S => match a, b with
  | .int i, .int j => match g i j with | some d => .ok d S | none => .no
  | _, _ => .no
theorem oI_ok {K : PySem.W.Frag} {mg : MG} {C : Int → Int → Prop} {g : Int → Int → V} {g' : Int → Int → Option D} (h : ∀ i j d, g' i j = some d → C i j ∧ ∀ φ H, Rp K mg φ H (g i j) d) : Op2 K mg (rI C g) (oI g') := fun W φ S H σ x y a b Q s ra rb p => by
  unfold oI at p
  split at p
  · rename_i i j
    cases ra
    cases rb
    split at p
    · rename_i d e
      obtain ⟨c, r⟩ := h i j d e
      exact ⟨i, j, rfl, rfl, c, p φ H _ Ext.rfl' s (r φ H)⟩
    · exact p.elim
  · exact p.elim
theorem oI_ok0 {K : PySem.W.Frag} {mg : MG} {g : Int → Int → V} {g' : Int → Int → Option D} (h : ∀ i j d, g' i j = some d → ∀ φ H, Rp K mg φ H (g i j) d) : Op2 K mg (rI0 g) (oI g') := fun W φ S H σ x y a b Q s ra rb p => by
  unfold oI at p
  split at p
  · rename_i i j
    cases ra
    cases rb
    split at p
    · rename_i d e
      exact ⟨i, j, rfl, rfl, p φ H _ Ext.rfl' s (h i j d e φ H)⟩
    · exact p.elim
  · exact p.elim
/-- lists' greatest length here -/
def szOk (n : Nat) : Bool := gd (n ≤ 1000000)
theorem szOk.le {n : Nat} (h : szOk n = true) : n ≤ sizeLine := by
  have := of_gd h
  rw [sizeLine_eq]; omega
theorem szOk.lt {n : Nat} (h : szOk n = true) : n < sizeLine := by
  have := of_gd h
  rw [sizeLine_eq]; omega

/-- a + b; of lists a new one, by value -/
def catD (a b : D) (S : Sto) : Option (List D) := match lstOf a S, lstOf b S with
  | some xs, some ys => if szOk (xs.length + ys.length) then some (xs ++ ys) else none
  | _, _ => none
def oAdd : OF := fun a b S => match a, b with
  | .int i, .int j => .ok (.int (i + j)) S
  | .tup xs, .tup ys => if szOk (xs.length + ys.length) then .ok (.tup (xs ++ ys)) S else .no
  | .str x, .str y => if szOk (x.length + y.length) then .ok (.str (x ++ y)) S else .no
  | a, b => match catD a b S with
    | some zs => .ok (.lst zs) S
    | none => .no
/-- .. a new one of the store -/
def oAddS : OF := fun a b S => match catD a b S with
    | some zs => .ok (.ob S.length) (S ++ [.lst zs])
    | none => .no
abbrev rAddAll (K : PySem.W.Frag) : R2 := fun x y H Q => (rI0 (fun i j => .int (i + j))) x y H Q ∨ (fun x y H Q => rCatA K x y H Q ∨ (fun x y H Q => rCat x y H Q ∨
  (fun x y H Q => ∃ i j, x = .str i ∧ y = .str j ∧ i.length + j.length ≤ sizeLine ∧ Q (.str (i ++ j)) H) x y H Q) x y H Q) x y H Q
theorem op_addAll {X : Cx} : OpR X (binaryOp .Add) (rAddAll X.K) := OpR.or op_add (OpR.or op_catA (OpR.or op_cat op_add_str))
theorem catD_ok {K : PySem.W.Frag} {mg : MG} {φ : List Addr} {S : Sto} {H : Hp} {x y : V} {a b : D} {zs : List D} (s : Sr K mg φ S H) (ra : Rp K mg φ H x a) (rb : Rp K mg φ H y b) (h : catD a b S = some zs) :
    ∃ l m us ws, x = .ref l ∧ y = .ref m ∧ H l = some (.lst us) ∧ H m = some (.lst ws) ∧ us.length + ws.length ≤ sizeLine ∧ Rps K mg φ H (us ++ ws) zs := by
  unfold catD at h
  split at h
  · rename_i xs ys h1 h2
    split at h
    · rename_i hz
      cases h
      obtain ⟨l, us, rfl, g1, r1⟩ := lstOf_ok s ra h1
      obtain ⟨m, ws, rfl, g2, r2⟩ := lstOf_ok s rb h2
      exact ⟨l, m, us, ws, rfl, rfl, g1, g2, by rw [r1.length, r2.length]; exact szOk.le hz, r1.append r2⟩
    · cases h
  · cases h
theorem oAdd_ok {K : PySem.W.Frag} {mg : MG} : Op2 K mg (rAddAll K) oAdd := fun W φ S H σ x y a b Q s ra rb p => by
  unfold oAdd at p
  split at p
  · cases ra; cases rb
    exact .inl ⟨_, _, rfl, rfl, p φ H _ Ext.rfl' s (.int _)⟩
  · split at p
    · rename_i xs ys hz
      cases ra with
      | tup ta rxs =>
        cases rb with
        | tup tb rys =>
          have e1 := rxs.length
          have e2 := rys.length
          refine .inr (.inl ⟨_, _, _, _, rfl, rfl, ta.sq, tb.sq, ?_, fun e => ?_, fun _ e => ?_, fun _ _ q hq => ?_⟩)
          · rw [e1, e2]; exact szOk.le hz
          · subst e
            cases rxs
            exact p φ H _ Ext.rfl' s (.tup tb rys)
          · subst e
            cases rys
            rw [List.append_nil] at p
            exact p φ H _ Ext.rfl' s (.tup ta rxs)
          · exact p φ _ _ (Ext.new hq) (s.new hq) (.tup (.inl (s.im hq)) ((rxs.append rys).mono (Ext.new hq)))
    · exact p.elim
  · split at p
    · rename_i hz
      cases ra; cases rb
      exact .inr (.inr (.inr ⟨_, _, rfl, rfl, szOk.le hz, p φ H _ Ext.rfl' s (.str _)⟩))
    · exact p.elim
  · split at p
    · rename_i zs hzs
      obtain ⟨l, m, us, ws, rfl, rfl, g1, g2, hz, rz⟩ := catD_ok s ra rb hzs
      exact .inr (.inr (.inl ⟨_, _, _, _, rfl, rfl, g1, g2, hz, fun q hq => p φ _ _ (Ext.new hq) (s.new hq) (.lst (s.im hq) (rz.mono (Ext.new hq)))⟩))
    · exact p.elim
theorem oAddS_ok {K : PySem.W.Frag} {mg : MG} : Op2 K mg (rAddAll K) oAddS := fun W φ S H σ x y a b Q s ra rb p => by
  unfold oAddS at p
  split at p
  · rename_i zs hzs
    obtain ⟨l, m, us, ws, rfl, rfl, g1, g2, hz, rz⟩ := catD_ok s ra rb hzs
    refine .inr (.inr (.inl ⟨_, _, _, _, rfl, rfl, g1, g2, hz, fun q hq => ?_⟩))
    have e := Ext.newSnoc (φ := φ) (o := .lst (us ++ ws)) hq
    exact p _ _ _ e (s.snoc hq ⟨_, upd_same, rz.mono e⟩) (.ob (at_snoc s q))
  · exact p.elim
/-- a - b -/
def oSub : OF := oI fun i j => some (.int (i - j))
theorem oSub_ok {K : PySem.W.Frag} {mg : MG} : Op2 K mg (rI0 fun i j => .int (i - j)) oSub := oI_ok0 fun i j d e φ H => by cases e; exact .int _
/-- a * b: ints, a list so many times -/
def mulOk (i j : Int) : Bool := gd ((Builtin.Int.intBits i : Int) + (Builtin.Int.intBits j : Int) ≤ 134217728)
/-- ints; a list so many times: a new one by value -/
def repD (d : D) (k : Int) (S : Sto) : Option (List D) := match lstOf d S with
  | some xs => if gd (0 ≤ k ∧ k ≤ 1000000) && szOk (xs.length * k.toNat) then some (List.replicate k.toNat xs).flatten else none
  | none => none
def oMul : OF := fun a b S => match a, b with
  | .int i, .int j => if mulOk i j then .ok (.int (i * j)) S else .no
  | .tup xs, .int k => if gd (xs ≠ [] ∧ 2 ≤ k ∧ k ≤ 1000 ∧ xs.length ≤ 1000) then .ok (.tup (List.replicate k.toNat xs).flatten) S else .no
  | a, .int k => match repD a k S with
    | some zs => .ok (.lst zs) S
    | none => .no
  | _, _ => .no
def oMulS : OF := fun a b S => match b with
  | .int k => match repD a k S with
    | some zs => .ok (.ob S.length) (S ++ [.lst zs])
    | none => .no
  | _ => .no
abbrev rMulAll (K : PySem.W.Frag) : R2 := fun x y H Q => (rI CMulX fun i j => .int (i * j)) x y H Q ∨ (fun x y H Q => rRep x y H Q ∨ rRepT K x y H Q) x y H Q
theorem op_mulAll {X : Cx} : OpR X (binaryOp .Mult) (rMulAll X.K) := OpR.or op_mulX (OpR.or op_rep op_repT)
theorem repD_ok {K : PySem.W.Frag} {mg : MG} {φ : List Addr} {S : Sto} {H : Hp} {x : V} {a : D} {k : Int} {zs : List D} (s : Sr K mg φ S H) (ra : Rp K mg φ H x a) (h : repD a k S = some zs) :
    ∃ l us, x = .ref l ∧ H l = some (.lst us) ∧ 0 ≤ k ∧ k ≤ 1000000 ∧ us.length * k.toNat ≤ sizeLine ∧ Rps K mg φ H (List.replicate k.toNat us).flatten zs := by
  unfold repD at h
  split at h
  · rename_i xs h1
    split at h
    · rename_i hz
      obtain ⟨h2, h3⟩ := Bool.and_eq_true_iff.mp hz
      have h2 := of_gd h2
      cases h
      obtain ⟨l, us, rfl, g1, r1⟩ := lstOf_ok s ra h1
      exact ⟨l, us, rfl, g1, h2.1, h2.2, by rw [r1.length]; exact szOk.le h3, r1.flatten_replicate _⟩
    · cases h
  · cases h
theorem oMul_ok {K : PySem.W.Frag} {mg : MG} : Op2 K mg (rMulAll K) oMul := fun W φ S H σ x y a b Q s ra rb p => by
  unfold oMul at p
  split at p
  · split at p
    · rename_i hz
      cases ra; cases rb
      exact .inl ⟨_, _, rfl, rfl, (of_gd hz : (_ : Int) ≤ 134217728), p φ H _ Ext.rfl' s (.int _)⟩
    · exact p.elim
  · split at p
    · rename_i hz
      obtain ⟨h1, h2, h3, h4⟩ := of_gd hz
      cases rb
      cases ra with
      | tup t rs =>
        have hl := rs.length
        refine .inr (.inr ⟨_, _, _, rfl, rfl, t.sq, fun e => ?_, h2, h3, by omega, fun q hq => p φ _ _ (Ext.new hq) (s.new hq) (.tup (.inl (s.im hq)) ((rs.flatten_replicate _).mono (Ext.new hq)))⟩)
        rw [e] at hl
        exact h1 (List.eq_nil_of_length_eq_zero hl.symm)
    · exact p.elim
  · split at p
    · rename_i zs hzs
      obtain ⟨l, us, rfl, g1, h2, h3, h4, rz⟩ := repD_ok s ra hzs
      cases rb
      exact .inr (.inl ⟨_, _, _, rfl, rfl, g1, by omega, by omega, h4, fun q hq => p φ _ _ (Ext.new hq) (s.new hq) (.lst (s.im hq) (rz.mono (Ext.new hq)))⟩)
    · exact p.elim
  · exact p.elim
theorem oMulS_ok {K : PySem.W.Frag} {mg : MG} : Op2 K mg (rMulAll K) oMulS := fun W φ S H σ x y a b Q s ra rb p => by
  unfold oMulS at p
  split at p
  · rename_i k
    split at p
    · rename_i zs hzs
      obtain ⟨l, us, rfl, g1, h2, h3, h4, rz⟩ := repD_ok s ra hzs
      cases rb
      refine .inr (.inl ⟨_, _, _, rfl, rfl, g1, by omega, by omega, h4, fun q hq => ?_⟩)
      have e := Ext.newSnoc (φ := φ) (o := .lst (List.replicate k.toNat us).flatten) hq
      exact p _ _ _ e (s.snoc hq ⟨_, upd_same, rz.mono e⟩) (.ob (at_snoc s q))
    · exact p.elim
  · exact p.elim
/-- a // b -/
def divOk (i j : Int) : Bool := gd (j ≠ 0 ∧ Builtin.divisionGoesByPylong i j = false)
def CDivQ (i j : Int) : Prop := j ≠ 0 ∧ Builtin.divisionGoesByPylong i j = false
theorem op_fdivQ {X : Cx} : OpR X (binaryOp .FloorDiv) (rI CDivQ fun i j => .int (i.fdiv j)) := opI fun i j _ _ _ _ _ hc q => floordiv_int hc.1 q (.inl hc.2)
def oDiv : OF := oI fun i j => if divOk i j then some (.int (i.fdiv j)) else none
theorem oDiv_ok {K : PySem.W.Frag} {mg : MG} : Op2 K mg (rI CDivQ fun i j => .int (i.fdiv j)) oDiv := oI_ok fun i j d e => by
  split at e
  · rename_i h
    cases e
    exact ⟨of_gd h, fun _ _ => .int _⟩
  · cases e
/-- a % b -/
def oMod : OF := oI fun i j => if gd (0 < j) then some (.int (i % j)) else none
theorem oMod_ok {K : PySem.W.Frag} {mg : MG} : Op2 K mg (rI (fun _ j => 0 < j) fun i j => .int (i % j)) oMod := oI_ok fun i j d e => by
  split at e
  · rename_i h; cases e; exact ⟨of_gd h, fun _ _ => .int _⟩
  · cases e
/-- a ** b -/
def oPow : OF := oI fun i j => if gd (0 ≤ j ∧ j ≤ 1000000 ∧ i.natAbs < 2 ^ 64) then some (.int (i ^ j.toNat)) else none
theorem oPow_ok {K : PySem.W.Frag} {mg : MG} : Op2 K mg (rI CPow fun i j => .int (i ^ j.toNat)) oPow := oI_ok fun i j d e => by
  split at e
  · rename_i h; cases e; exact ⟨of_gd h, fun _ _ => .int _⟩
  · cases e
/-! ### comparisons -/
def oLt : OF := oI fun i j => some (.bl (decide (i < j)))
def oLe : OF := oI fun i j => some (.bl (decide (i ≤ j)))
/-- a truth is 1 or 0 -/
def oGt : OF := fun a b S => match a, b with
  | .int i, .int j => .ok (.bl (decide (j < i))) S
  | .bl x, .int j => .ok (.bl (decide (j < (if x = true then 1 else 0)))) S
  | _, _ => .no
section
variable {prog : Program} {w : World} {A : Around} {E : Value → Shared → Prop} {s : Shared}
theorem gives_gt_bi (a : Bool) (b : Int) (u : Tok) : Gives (PySem.Builtin.«int.__gt__» ⟨[.bool a, .int b u], []⟩) (.val (Value.bool ((fun x1 x2 => decide (x1 > x2)) (if a = true then (1 : Int) else 0) b))) :=
  .of_wp fun M A E s Q h => by obtain ⟨hp, g, d, tk, os⟩ := s; wp_walk; exact ⟨_, rfl, h⟩
theorem gt_bool_int {a : Bool} {b : Int} {u : Tok} {Q : Value → Shared → Prop} (h : Q (.bool (decide (b < (if a = true then 1 else 0)))) s) : wpAny (model prog w) A (compareOp .Gt (.bool a) (.int b u)) Q E s := by
  have hop : compareOp .Gt (.bool a) (.int b u) = richCompare .Gt (.bool a) (.int b u) := rfl
  rw [hop]
  refine PySem.SeqAt.rc_left_or (Ta := "bool") (Tb := "int") (op := .Gt) rfl (typeIs_int s b u) (by decide) PySem.F.sub_int_bool PySem.F.slot_bool_gt ?_ (.inl rfl)
  refine call_gives PySem.F.slot_bool_gt rfl PySem.F.entry_int_gt (PySem.F.args_int_gt_2 _ _) (gives_gt_bi a b u) ?_
  exact ⟨nofun, h⟩
end
def rGtB : R2 := fun x y H Q => (∃ i j, x = .int i ∧ y = .int j ∧ Q (.bl (decide (j < i))) H) ∨ (∃ a j, x = .bl a ∧ y = .int j ∧ Q (.bl (decide (j < (if a = true then 1 else 0)))) H)
theorem op_gtB {X : Cx} : OpR X (compareOp .Gt) rGtB := by
  intro pins s σ H x y v u Q I rx ry h
  rcases h with ⟨i, j, rfl, rfl, q⟩ | ⟨a, j, rfl, rfl, q⟩
  · exact op_gt pins s σ H _ _ v u Q I rx ry ⟨i, j, rfl, rfl, q⟩
  · obtain rfl : v = Value.bool a := rx
    obtain ⟨t', rfl⟩ := ry
    exact gt_bool_int ⟨.bl _, H, I, rfl, q⟩
def oGe : OF := oI fun i j => some (.bl (decide (j ≤ i)))
theorem oLt_ok {K : PySem.W.Frag} {mg : MG} : Op2 K mg (rI0 fun i j => .bl (decide (i < j))) oLt := oI_ok0 fun i j d e φ H => by cases e; exact .bl _
theorem oLe_ok {K : PySem.W.Frag} {mg : MG} : Op2 K mg (rI0 fun i j => .bl (decide (i ≤ j))) oLe := oI_ok0 fun i j d e φ H => by cases e; exact .bl _
theorem oGt_ok {K : PySem.W.Frag} {mg : MG} : Op2 K mg rGtB oGt := fun W φ S H σ x y a b Q s ra rb p => by
  unfold oGt at p
  split at p
  · cases ra; cases rb
    exact .inl ⟨_, _, rfl, rfl, p φ H _ Ext.rfl' s (.bl _)⟩
  · cases ra; cases rb
    exact .inr ⟨_, _, rfl, rfl, p φ H _ Ext.rfl' s (.bl _)⟩
  · exact p.elim
theorem oGe_ok {K : PySem.W.Frag} {mg : MG} : Op2 K mg (rI0 fun i j => .bl (decide (j ≤ i))) oGe := oI_ok0 fun i j d e φ H => by cases e; exact .bl _

/-- data by value, read to a depth -/
def pyOf : Nat → Sto → D → Option PyData
  | 0, _, _ => none
  | _ + 1, _, .non => some .none
  | _ + 1, _, .bl b => some (.bool b)
  | _ + 1, _, .int i => some (.int i)
  | _ + 1, _, .str s => some (.str s)
  | n + 1, S, .tup ds => (pyAll (pyOf n S) ds).map .tuple
  | n + 1, S, .lst ds => (pyAll (pyOf n S) ds).map .list
  | n + 1, S, .ob k => match S[k]? with
    | some (.lst ds) => (pyAll (pyOf n S) ds).map .list
    | _ => none
  | _ + 1, _, _ => none
where pyAll (f : D → Option PyData) : List D → Option (List PyData)
  | [] => some []
  | d :: r => match f d, pyAll f r with
    | some x, some xs => some (x :: xs)
    | _, _ => none
theorem pyAll_ok {K : PySem.W.Frag} {mg : MG} {φ : List Addr} {H : Hp} {f : D → Option PyData} (hf : ∀ v d e, Rp K mg φ H v d → f d = some e → Dp K H v e) :
    ∀ (vs : List V) (ds : List D) (es : List PyData), Rps K mg φ H vs ds → pyOf.pyAll f ds = some es → DpAll K H vs es
  | _, _, es, .nil, h => by cases h; exact .nil
  | _, d :: r, es, .cons a b, h => by
    unfold pyOf.pyAll at h
    split at h
    · rename_i x xs h1 h2
      cases h
      exact .cons (hf _ _ _ a h1) (pyAll_ok hf _ _ _ b h2)
    · cases h
theorem pyOf_ok {K : PySem.W.Frag} {mg : MG} {φ : List Addr} {H : Hp} {S : Sto} (s : Sr K mg φ S H) : ∀ (n : Nat) (v : V) (d : D) (e : PyData), Rp K mg φ H v d → pyOf n S d = some e → Dp K H v e
  | 0, _, _, _, _, h => by simp [pyOf] at h
  | n + 1, v, d, e, r, h => by
    have ih := pyOf_ok s n
    cases d with
    | non => cases r; simp [pyOf] at h; subst h; exact .non
    | bl b => cases r; simp [pyOf] at h; subst h; exact .bl b
    | int b => cases r; simp [pyOf] at h; subst h; exact .int b
    | str b => cases r; simp [pyOf] at h; subst h; exact .str b
    | tup ds =>
      simp only [pyOf, Option.map_eq_some_iff] at h
      obtain ⟨es, h1, rfl⟩ := h
      cases r with
      | tup t rs => exact .tup t.sq (pyAll_ok (fun v d e a b => ih v d e a b) _ _ _ rs h1)
    | lst ds =>
      simp only [pyOf, Option.map_eq_some_iff] at h
      obtain ⟨es, h1, rfl⟩ := h
      cases r with
      | lst t rs => exact .lst (.of t.2) (pyAll_ok (fun v d e a b => ih v d e a b) _ _ _ rs h1)
    | ob k =>
      simp only [pyOf] at h
      split at h
      · rename_i ds hk
        simp only [Option.map_eq_some_iff] at h
        obtain ⟨es, h1, rfl⟩ := h
        cases r with
        | ob hn =>
          obtain ⟨xs, g, rs⟩ := s.lst hn hk
          exact .lst (.of g) (pyAll_ok (fun v d e a b => ih v d e a b) _ _ _ rs h1)
      · cases h
    | _ => simp [pyOf] at h
def oEqG (neg : Bool) : OF := fun a b S => match pyOf 40 S a, pyOf 40 S b with
  | some x, some y => if SeqAt.shaped x && SeqAt.shaped y then .ok (.bl (PyData.eqv x y != neg)) S else .no
  | _, _ => .no
def oEq : OF := oEqG false
def oNe : OF := oEqG true
theorem oEq_ok {K : PySem.W.Frag} {mg : MG} : Op2 K mg (rEqD K) oEq := fun W φ S H σ x y a b Q s ra rb p => by
  unfold oEq oEqG at p
  split at p
  · rename_i u v h1 h2
    split at p
    · rename_i hz
      obtain ⟨z1, z2⟩ := Bool.and_eq_true_iff.mp hz
      refine ⟨u, v, pyOf_ok s 40 _ _ _ ra h1, pyOf_ok s 40 _ _ _ rb h2, z1, z2, ?_⟩
      have q := p φ H (.bl (PyData.eqv u v)) Ext.rfl' s (by rw [Bool.bne_false]; exact .bl _)
      exact q
    · exact p.elim
  · exact p.elim
theorem oNe_ok {K : PySem.W.Frag} {mg : MG} : Op2 K mg (rNeD K) oNe := fun W φ S H σ x y a b Q s ra rb p => by
  unfold oNe oEqG at p
  split at p
  · rename_i u v h1 h2
    split at p
    · rename_i hz
      obtain ⟨z1, z2⟩ := Bool.and_eq_true_iff.mp hz
      refine ⟨u, v, pyOf_ok s 40 _ _ _ ra h1, pyOf_ok s 40 _ _ _ rb h2, z1, z2, ?_⟩
      have q := p φ H (.bl (!PyData.eqv u v)) Ext.rfl' s (by rw [Bool.bne_true]; exact .bl _)
      exact q
    · exact p.elim
  · exact p.elim
/-- is, is not: beside None, of two truths -/
def isNonD : D → Option Bool
  | .non => some true
  | _ => some false
def isBlD (y : Bool) : D → Bool
  | .bl x => decide (x = y)
  | _ => false
def oIsG (neg : Bool) : OF := fun a b S => match b with
  | .non => match isNonD a with | some k => .ok (.bl (k != neg)) S | none => .no
  | .bl y => .ok (.bl (isBlD y a != neg)) S
  | _ => .no
def oIs : OF := oIsG false
def oIsnt : OF := oIsG true
theorem op_is_blx {X : Cx} : OpR X (compareOp .Is) (fun x y H Q => ∃ b, y = .bl b ∧ Q (.bl (decide (x = .bl b))) H) := by
  intro pins s σ H x y v u Q I rx ry h
  obtain ⟨b, rfl, q⟩ := h
  cases (show u = Value.bool b from ry)
  have key : ∀ v : Value, RelV x v → plainIs v (.bool b) = true ∧ (v == .bool b) = decide (x = .bl b) := by
    intro v rx
    cases x with
    | bl c => cases (show v = Value.bool c from rx); exact ⟨rfl, by cases c <;> cases b <;> rfl⟩
    | non => cases rx; exact ⟨rfl, by simp⟩
    | ref a => cases rx; exact ⟨rfl, by simp⟩
    | ty a => cases rx; exact ⟨rfl, by simp⟩
    | _ => obtain ⟨t, rfl⟩ := rx; exact ⟨rfl, by simp⟩
  obtain ⟨k1, k2⟩ := key v rx
  exact wpAny_is_plain k1 ⟨.bl _, H, I, by rw [k2]; rfl, q⟩
theorem op_isnot_blx {X : Cx} : OpR X (compareOp .IsNot) (fun x y H Q => ∃ b, y = .bl b ∧ Q (.bl (!decide (x = .bl b))) H) := by
  intro pins s σ H x y v u Q I rx ry h
  obtain ⟨b, rfl, q⟩ := h
  cases (show u = Value.bool b from ry)
  have key : ∀ v : Value, RelV x v → plainIs v (.bool b) = true ∧ (v == .bool b) = decide (x = .bl b) := by
    intro v rx
    cases x with
    | bl c => cases (show v = Value.bool c from rx); exact ⟨rfl, by cases c <;> cases b <;> rfl⟩
    | non => cases rx; exact ⟨rfl, by simp⟩
    | ref a => cases rx; exact ⟨rfl, by simp⟩
    | ty a => cases rx; exact ⟨rfl, by simp⟩
    | _ => obtain ⟨t, rfl⟩ := rx; exact ⟨rfl, by simp⟩
  obtain ⟨k1, k2⟩ := key v rx
  exact wpAny_isNot_plain k1 ⟨.bl _, H, I, by rw [k2]; rfl, q⟩
theorem isNonD_ok {K : PySem.W.Frag} {mg : MG} {φ : List Addr} {H : Hp} {v : V} {d : D} {k : Bool} (r : Rp K mg φ H v d) (h : isNonD d = some k) : decide (v = .non) = k := by
  cases r <;> simp [isNonD] at h <;> subst h <;> simp
theorem isBlD_ok {K : PySem.W.Frag} {mg : MG} {φ : List Addr} {H : Hp} {v : V} {d : D} {y : Bool} (r : Rp K mg φ H v d) : decide (v = .bl y) = isBlD y d := by
  cases r <;> simp [isBlD]
abbrev rIsAll : R2 := fun x y H Q => (fun x y H Q => y = .non ∧ Q (.bl (decide (x = .non))) H) x y H Q ∨ (fun x y H Q => ∃ b, y = .bl b ∧ Q (.bl (decide (x = .bl b))) H) x y H Q
abbrev rIsntAll : R2 := fun x y H Q => (fun x y H Q => y = .non ∧ Q (.bl (!decide (x = .non))) H) x y H Q ∨ (fun x y H Q => ∃ b, y = .bl b ∧ Q (.bl (!decide (x = .bl b))) H) x y H Q
theorem op_isAll {X : Cx} : OpR X (compareOp .Is) rIsAll := OpR.or op_isN op_is_blx
theorem op_isntAll {X : Cx} : OpR X (compareOp .IsNot) rIsntAll := OpR.or op_notN op_isnot_blx
theorem oIs_ok {K : PySem.W.Frag} {mg : MG} : Op2 K mg rIsAll oIs := fun W φ S H σ x y a b Q s ra rb p => by
  unfold oIs oIsG at p
  split at p
  · split at p
    · rename_i k hk
      cases rb
      refine .inl ⟨rfl, ?_⟩
      rw [isNonD_ok ra hk]
      exact p φ H _ Ext.rfl' s (by rw [Bool.bne_false]; exact .bl _)
    · exact p.elim
  · cases rb
    refine .inr ⟨_, rfl, ?_⟩
    rw [isBlD_ok ra]
    exact p φ H _ Ext.rfl' s (by rw [Bool.bne_false]; exact .bl _)
  · exact p.elim
theorem oIsnt_ok {K : PySem.W.Frag} {mg : MG} : Op2 K mg rIsntAll oIsnt := fun W φ S H σ x y a b Q s ra rb p => by
  unfold oIsnt oIsG at p
  split at p
  · split at p
    · rename_i k hk
      cases rb
      refine .inl ⟨rfl, ?_⟩
      rw [isNonD_ok ra hk]
      exact p φ H _ Ext.rfl' s (by rw [Bool.bne_true]; exact .bl _)
    · exact p.elim
  · cases rb
    refine .inr ⟨_, rfl, ?_⟩
    rw [isBlD_ok ra]
    exact p φ H _ Ext.rfl' s (by rw [Bool.bne_true]; exact .bl _)
  · exact p.elim
end DV
set_option Elab.async false
set_option linter.all false
set_option maxRecDepth 100000
namespace DV
open PySem PySem.Spec PyProof.Rows L2

/-! ### truth, and, or, not -/
def truD : D → Sto → Option Bool
  | .non, _ => some false
  | .bl b, _ => some b
  | .int i, _ => some (i != 0)
  | .str s, _ => if szOk s.length then some ((s.length : Int) != 0) else none
  | .tup xs, _ => some (!xs.isEmpty)
  | .dct kvs, _ => some (!kvs.isEmpty)
  | .ob n, S => match S[n]? with
    | some (.lst xs) => some (!xs.isEmpty)
    | some (.dic kvs) => some (!kvs.isEmpty)
    | _ => none
  | .lst xs, _ => some (!xs.isEmpty)
  | _, _ => none
theorem Rps.isEmpty {K : PySem.W.Frag} {mg : MG} {φ : List Addr} {H : Hp} : ∀ {vs : List V} {ds : List D}, Rps K mg φ H vs ds → vs.isEmpty = ds.isEmpty
  | _, _, .nil => rfl
  | _, _, .cons _ _ => rfl
theorem map_isEmpty {α β γ : Type} {ws : List (α × β)} {kvs : List (α × γ)} (h : ws.map (·.1) = kvs.map (·.1)) : ws.isEmpty = kvs.isEmpty := by
  cases ws <;> cases kvs <;> simp_all
theorem truD_ok {K : PySem.W.Frag} {mg : MG} {φ : List Addr} {H : Hp} {S : Sto} {v : V} {d : D} {k : Bool} (s : Sr K mg φ S H) (r : Rp K mg φ H v d) (h : truD d S = some k) : TruV K v H k := by
  cases d with
  | non => cases r; simp [truD] at h; exact h
  | bl b => cases r; simp [truD] at h; exact h.symm
  | int i => cases r; simp [truD] at h; exact h.symm
  | str x =>
    cases r
    simp only [truD] at h
    split at h
    · rename_i hz; cases h; exact ⟨szOk.le hz, rfl⟩
    · cases h
  | tup xs =>
    cases r with
    | tup t rs =>
      simp only [truD] at h
      cases h
      exact .inr (.inl ⟨_, t.sq, by rw [rs.isEmpty]⟩)
  | lst xs =>
    cases r with
    | lst t rs =>
      simp only [truD] at h
      cases h
      exact .inl ⟨_, .of t.2, by rw [rs.isEmpty]⟩
  | dct kvs =>
    cases r with
    | dct t kk rs =>
      simp only [truD] at h
      cases h
      exact .inr (.inr ⟨_, t.2, by rw [map_isEmpty kk]⟩)
  | ob n =>
    cases r with
    | ob hn =>
      simp only [truD] at h
      split at h
      · rename_i xs e
        cases h
        obtain ⟨us, g, rs⟩ := s.lst hn e
        exact .inl ⟨_, .of g, by rw [rs.isEmpty]⟩
      · rename_i kvs e
        cases h
        obtain ⟨b, h1, ws, g, k1, rs⟩ := s.at' n _ e
        rw [hn] at h1; cases h1
        exact .inr (.inr ⟨_, g, by rw [map_isEmpty k1]⟩)
      · cases h
  | _ => simp [truD] at h
def eOr (a b : EF) : EF := fun ρ S => (a ρ S).bind fun d S1 => match truD d S1 with
  | some true => .ok d S1
  | some false => b ρ S1
  | none => .no
def eAnd (a b : EF) : EF := fun ρ S => (a ρ S).bind fun d S1 => match truD d S1 with
  | some true => b ρ S1
  | some false => .ok d S1
  | none => .no
def eNot (a : EF) : EF := fun ρ S => (a ρ S).bind fun d S1 => match truD d S1 with
  | some k => .ok (.bl (!k)) S1
  | none => .no
def tTru (a : EF) : TF := fun ρ S => (a ρ S).bind fun d S1 => match truD d S1 with
  | some k => .ok k S1
  | none => .no
def bAnd (a b : TF) : TF := fun ρ S => (a ρ S).bind fun k S1 => if k = true then b ρ S1 else .ok false S1
def bOr (a b : TF) : TF := fun ρ S => (a ρ S).bind fun k S1 => if k = true then .ok true S1 else b ρ S1
def bNot (a : TF) : TF := fun ρ S => (a ρ S).bind fun k S1 => .ok (!k) S1
def eIf (c : TF) (a b : EF) : EF := fun ρ S => (c ρ S).bind fun k S1 => if k = true then a ρ S1 else b ρ S1
section
variable {X : Cx} {W : WX} {a b c : Expr} {fa fb fc : EF} {ga gb : TF} {rest : List Expr} {pos : Pos}
theorem de_one {op : BoolOp} (h : DE X W a fa) : DE X W (.BoolOp op [a] pos) fa := pe_one h
theorem de_or (ha : DE X W a fa) (hb : DE X W (.BoolOp .Or (b :: rest) pos) fb) : DE X W (.BoolOp .Or (a :: b :: rest) pos) (eOr fa fb) :=
  pe_wk (pe_orT ha hb) fun σ H Q ⟨φ, ρ, S, er, sr, p⟩ => (lf.bind er sr p).imp fun x H1 ⟨φ1, S1, d, e1, sr1, r1, p1⟩ => by
    split at p1
    · rename_i hk
      refine ⟨true, truD_ok sr1 r1 hk, ?_⟩
      rw [if_pos rfl]
      exact p1 φ1 H1 x Ext.rfl' sr1 r1
    · rename_i hk
      refine ⟨false, truD_ok sr1 r1 hk, ?_⟩
      rw [if_neg Bool.false_ne_true]
      exact ⟨φ1, ρ, S1, er.mono e1, sr1, p1⟩
    · exact p1.elim
theorem de_and (ha : DE X W a fa) (hb : DE X W (.BoolOp .And (b :: rest) pos) fb) : DE X W (.BoolOp .And (a :: b :: rest) pos) (eAnd fa fb) :=
  pe_wk (pe_andT ha hb) fun σ H Q ⟨φ, ρ, S, er, sr, p⟩ => (lf.bind er sr p).imp fun x H1 ⟨φ1, S1, d, e1, sr1, r1, p1⟩ => by
    split at p1
    · rename_i hk
      refine ⟨true, truD_ok sr1 r1 hk, ?_⟩
      rw [if_pos rfl]
      exact ⟨φ1, ρ, S1, er.mono e1, sr1, p1⟩
    · rename_i hk
      refine ⟨false, truD_ok sr1 r1 hk, ?_⟩
      rw [if_neg Bool.false_ne_true]
      exact p1 φ1 H1 x Ext.rfl' sr1 r1
    · exact p1.elim
theorem de_not (ha : DE X W a fa) : DE X W (.UnaryOp .Not a pos) (eNot fa) :=
  pe_wk (pe_notT ha) fun σ H Q ⟨φ, ρ, S, er, sr, p⟩ => (lf.bind er sr p).imp fun x H1 ⟨φ1, S1, d, e1, sr1, r1, p1⟩ => by
    split at p1
    · rename_i k hk
      exact ⟨k, truD_ok sr1 r1 hk, p1 φ1 H1 _ Ext.rfl' sr1 (.bl _)⟩
    · exact p1.elim
theorem dt_val (ha : DE X W a fa) (he : ∀ whole, isTrue a X.env whole = (do let v ← whole; standAt a.pos; holding [v] (truthy v)) := by intro _; rfl) : DT X W a (tTru fa) :=
  pt_wk (pt_truth ha he) fun σ H Q ⟨φ, ρ, S, er, sr, p⟩ => (lf.bind er sr p).imp fun x H1 ⟨φ1, S1, d, e1, sr1, r1, p1⟩ => by
    split at p1
    · rename_i k hk
      exact ⟨k, truD_ok sr1 r1 hk, p1 φ1 H1 _ Ext.rfl' sr1 rfl⟩
    · exact p1.elim
theorem dt_cmp {op : CmpOp} {r : R2} {o : OF} (ho : OpR X (compareOp op) r) (hr : Op2 X.K X.M r o) (hb' : ∀ a b S d S', o a b S = .ok d S' → ∃ k, d = .bl k) (ha : DE X W a fa) (hb : DE X W b fb)
    (hm : behindInMarks op b = false := by first | exact nomark _ | rfl) : DT X W (.Compare a [op] [b] pos) (tTru (eOp o fa fb)) :=
  pt_wk (pt_cmpR ho ha hb hm) fun σ H Q z => by
    refine tOp_of hr σ H _ ?_
    obtain ⟨φ, ρ, S, er, sr, p⟩ := z
    refine ⟨φ, ρ, S, er, sr, ?_⟩
    unfold tTru at p
    cases e : eOp o fa fb ρ S with
    | ok d S1 =>
      rw [e] at p
      intro φ' H' x e' s' r'
      have hk : ∃ k, d = .bl k := by
        unfold eOp at e
        cases e1 : fa ρ S with
        | ok d1 S2 =>
          rw [e1] at e
          simp only [Res.bind] at e
          cases e2 : fb ρ S2 with
          | ok d2 S3 => rw [e2] at e; exact hb' _ _ _ _ _ e
          | ex _ _ => rw [e2] at e; cases e
          | no => rw [e2] at e; cases e
        | ex _ _ => rw [e1] at e; cases e
        | no => rw [e1] at e; cases e
      obtain ⟨k, rfl⟩ := hk
      cases r'
      exact ⟨k, rfl, p φ' H' k e' s' rfl⟩
    | ex c S1 => rw [e] at p; exact p
    | no => rw [e] at p; exact p
theorem dt_not (ha : DT X W a ga) : DT X W (.UnaryOp .Not a pos) (bNot ga) :=
  pt_wk (pt_not ha) fun σ H Q ⟨φ, ρ, S, er, sr, p⟩ => (lf.bind er sr p).imp fun x H1 ⟨φ1, S1, d, e1, sr1, r1, p1⟩ => by
    cases r1
    exact p1 φ1 H1 _ Ext.rfl' sr1 rfl
def DW (X : Cx) (W : WX) (e : Expr) (f : TF) : Prop := PW X e (lT X.K X.M W f)
theorem pw_wk {X : Cx} {e : Expr} {t t' : TT} (h : PW X e t) (q : ∀ σ H Q, t' σ H Q → t σ H Q) : PW X e t' := ⟨fun whole pins s σ H Q I z => h.run whole pins s σ H Q I (q σ H Q z)⟩
theorem dw_and1 (ha : DT X W a ga) : DW X W (.BoolOp .And [a] pos) ga := pw_and1 ha
theorem dw_or1 (ha : DT X W a ga) : DW X W (.BoolOp .Or [a] pos) ga := pw_or1 ha
theorem dw_and (ha : DT X W a ga) (hb : DW X W (.BoolOp .And (b :: rest) pos) gb) : DW X W (.BoolOp .And (a :: b :: rest) pos) (bAnd ga gb) :=
  pw_wk (pw_and ha hb) fun σ H Q ⟨φ, ρ, S, er, sr, p⟩ => (lf.bind er sr p).imp fun x H1 ⟨φ1, S1, d, e1, sr1, r1, p1⟩ => by
    cases r1
    split
    · rename_i h; rw [if_pos h] at p1; exact ⟨φ1, ρ, S1, er.mono e1, sr1, p1⟩
    · rename_i h; rw [if_neg h] at p1; exact p1 φ1 H1 _ Ext.rfl' sr1 rfl
theorem dw_or (ha : DT X W a ga) (hb : DW X W (.BoolOp .Or (b :: rest) pos) gb) : DW X W (.BoolOp .Or (a :: b :: rest) pos) (bOr ga gb) :=
  pw_wk (pw_or ha hb) fun σ H Q ⟨φ, ρ, S, er, sr, p⟩ => (lf.bind er sr p).imp fun x H1 ⟨φ1, S1, d, e1, sr1, r1, p1⟩ => by
    cases r1
    split
    · rename_i h; rw [if_pos h] at p1; exact p1 φ1 H1 _ Ext.rfl' sr1 rfl
    · rename_i h; rw [if_neg h] at p1; exact ⟨φ1, ρ, S1, er.mono e1, sr1, p1⟩
theorem dt_w (h : DW X W a ga) : DT X W a ga := PW.pt h
theorem de_if (hc : DT X W c ga) (ha : DE X W a fa) (hb : DE X W b fb) : DE X W (.IfExp c a b pos) (eIf ga fa fb) :=
  pe_wk (pe_ifExp hc ha hb) fun σ H Q ⟨φ, ρ, S, er, sr, p⟩ => (lf.bind er sr p).imp fun x H1 ⟨φ1, S1, d, e1, sr1, r1, p1⟩ => by
    cases r1
    split
    · rename_i h; rw [if_pos h] at p1; exact ⟨φ1, ρ, S1, er.mono e1, sr1, p1⟩
    · rename_i h; rw [if_neg h] at p1; exact ⟨φ1, ρ, S1, er.mono e1, sr1, p1⟩
/-- a op b op' c -/
def eChain (o o' : OF) (fa fb fc : EF) : EF := fun ρ S => (fa ρ S).bind fun x S1 => (fb ρ S1).bind fun y S2 => (o x y S2).bind fun z S3 => match z with
  | .bl true => (fc ρ S3).bind fun w S4 => o' y w S4
  | .bl false => .ok (.bl false) S3
  | _ => .no
theorem de_chain {op op' : CmpOp} {r r' : R2} {o o' : OF} (ho : OpR X (compareOp op) r) (hr : Op2 X.K X.M r o) (ho' : OpR X (compareOp op') r') (hr' : Op2 X.K X.M r' o') (ha : DE X W a fa) (hb : DE X W b fb) (hc : DE X W c fc)
    (h1 : PE X (.Compare a [op, op'] [b, c] pos) (tChain r r' (lE X.K X.M W fa) (lE X.K X.M W fb) (lE X.K X.M W fc))) : DE X W (.Compare a [op, op'] [b, c] pos) (eChain o o' fa fb fc) :=
  pe_wk h1 fun σ H Q ⟨φ, ρ, S, er, sr, p⟩ => (lf.bind er sr p).imp fun x H1 ⟨φ1, S1, d, e1, sr1, r1, p1⟩ => (lf.bind (er.mono e1) sr1 p1).imp fun y H2 ⟨φ2, S2, d2, e2, sr2, r2, p2⟩ => by
    refine hr W φ2 S2 H2 σ x y d d2 _ sr2 (r1.mono e2) r2 ?_
    cases e : o d d2 S2 with
    | ok z S3 =>
      rw [e] at p2
      intro φ' H' zv e' s' rz
      simp only [Res.bind] at p2
      split at p2
      · cases rz
        refine ⟨true, rfl, ?_⟩
        rw [if_pos rfl]
        exact (lf.bind (((er.mono e1).mono e2).mono e') s' (p2.mono e')).imp fun w H4 ⟨φ4, S4, d4, e4, sr4, r4, p4⟩ =>
          hr' W φ4 S4 H4 σ y w d2 d4 Q sr4 ((r2.mono e').mono e4) r4 p4
      · cases rz
        refine ⟨false, rfl, ?_⟩
        rw [if_neg Bool.false_ne_true]
        exact p2 φ' H' _ e' s' (.bl _)
      · exact p2.elim
    | ex c S3 => rw [e] at p2; exact p2
    | no => rw [e] at p2; exact p2
end
theorem oI_bl {g : Int → Int → Option D} (h : ∀ i j d, g i j = some d → ∃ k, d = .bl k) : ∀ a b S d S', oI g a b S = .ok d S' → ∃ k, d = .bl k := fun a b S d S' e => by
  unfold oI at e
  split at e
  · split at e
    · rename_i h1; cases e; exact h _ _ _ h1
    · cases e
  · cases e
theorem oLt_bl : ∀ a b S d S', oLt a b S = .ok d S' → ∃ k, d = .bl k := oI_bl fun _ _ _ e => by cases e; exact ⟨_, rfl⟩
theorem oLe_bl : ∀ a b S d S', oLe a b S = .ok d S' → ∃ k, d = .bl k := oI_bl fun _ _ _ e => by cases e; exact ⟨_, rfl⟩
theorem oGt_bl : ∀ a b S d S', oGt a b S = .ok d S' → ∃ k, d = .bl k := fun a b S d S' h => by
  unfold oGt at h
  split at h
  · cases h; exact ⟨_, rfl⟩
  · cases h; exact ⟨_, rfl⟩
  · cases h
theorem oGe_bl : ∀ a b S d S', oGe a b S = .ok d S' → ∃ k, d = .bl k := oI_bl fun _ _ _ e => by cases e; exact ⟨_, rfl⟩
theorem oEqG_bl {n : Bool} : ∀ a b S d S', oEqG n a b S = .ok d S' → ∃ k, d = .bl k := fun a b S d S' e => by
  unfold oEqG at e
  split at e
  · split at e
    · cases e; exact ⟨_, rfl⟩
    · cases e
  · cases e
theorem oIsG_bl {n : Bool} : ∀ a b S d S', oIsG n a b S = .ok d S' → ∃ k, d = .bl k := fun a b S d S' e => by
  unfold oIsG at e
  split at e
  · split at e
    · cases e; exact ⟨_, rfl⟩
    · cases e
  · cases e; exact ⟨_, rfl⟩
  · cases e

/-! ### displays -/
def aNil : AF := fun _ S => .ok [] S
def aCons (a : EF) (r : AF) : AF := fun ρ S => (a ρ S).bind fun x S1 => (r ρ S1).bind fun xs S2 => .ok (x :: xs) S2
def eTup (a : AF) : EF := fun ρ S => (a ρ S).bind fun ds S1 => if szOk ds.length then .ok (.tup ds) S1 else .no
/-- [..]: by value; eLstS: an object of the store -/
def eLst (a : AF) : EF := fun ρ S => (a ρ S).bind fun ds S1 => if szOk ds.length then .ok (.lst ds) S1 else .no
def eLstS (a : AF) : EF := fun ρ S => (a ρ S).bind fun ds S1 => if szOk ds.length then .ok (.ob S1.length) (S1 ++ [.lst ds]) else .no
section
variable {X : Cx} {W : WX} {e : Expr} {es : List Expr} {fa : EF} {ga : AF} {pos : Pos}
theorem da_nil : DA X W [] aNil := pa_wk pa_nil fun σ H Q ⟨φ, ρ, S, er, sr, p⟩ => p φ H [] Ext.rfl' sr .nil
theorem tCons_of : ∀ σ H Q, lA X.K X.M W (aCons fa ga) σ H Q → tCons (lE X.K X.M W fa) (lA X.K X.M W ga) σ H Q := fun σ H Q ⟨φ, ρ, S, er, sr, p⟩ =>
  (lf.bind er sr p).imp fun x H1 ⟨φ1, S1, d, e1, sr1, r1, p1⟩ => (lf.bind (er.mono e1) sr1 p1).imp fun xs H2 ⟨φ2, S2, ds, e2, sr2, r2, p2⟩ =>
    p2 φ2 H2 _ Ext.rfl' sr2 (.cons (r1.mono e2) r2)
theorem da_cons (h : PA X (e :: es) (tCons (lE X.K X.M W fa) (lA X.K X.M W ga))) : DA X W (e :: es) (aCons fa ga) := pa_wk h tCons_of
theorem de_tup {k : Nat} (h : PE X (.Tuple es k pos) (tTup (lA X.K X.M W ga))) : DE X W (.Tuple es k pos) (eTup ga) :=
  pe_wk h fun σ H Q ⟨φ, ρ, S, er, sr, p⟩ => (lf.bind er sr p).imp fun xs H1 ⟨φ1, S1, ds, e1, sr1, r1, p1⟩ => by
    split at p1
    · rename_i hz
      refine ⟨by rw [r1.length]; exact szOk.le hz, fun q hq => ?_⟩
      exact p1 φ1 _ _ (Ext.new hq) (sr1.new hq) (.tup (.inl (sr1.im hq)) (r1.mono (Ext.new hq)))
    · exact p1.elim
theorem de_lst (h : PE X (.List es pos) (tLst (lA X.K X.M W ga))) : DE X W (.List es pos) (eLst ga) :=
  pe_wk h fun σ H Q ⟨φ, ρ, S, er, sr, p⟩ => (lf.bind er sr p).imp fun xs H1 ⟨φ1, S1, ds, e1, sr1, r1, p1⟩ => by
    split at p1
    · rename_i hz
      exact ⟨by rw [r1.length]; exact szOk.le hz, fun q hq => p1 φ1 _ _ (Ext.new hq) (sr1.new hq) (.lst (sr1.im hq) (r1.mono (Ext.new hq)))⟩
    · exact p1.elim
theorem de_lstS (h : PE X (.List es pos) (tLst (lA X.K X.M W ga))) : DE X W (.List es pos) (eLstS ga) :=
  pe_wk h fun σ H Q ⟨φ, ρ, S, er, sr, p⟩ => (lf.bind er sr p).imp fun xs H1 ⟨φ1, S1, ds, e1, sr1, r1, p1⟩ => by
    split at p1
    · rename_i hz
      refine ⟨by rw [r1.length]; exact szOk.le hz, fun q hq => ?_⟩
      have e := Ext.newSnoc (φ := φ1) (o := .lst xs) hq
      exact p1 _ _ _ e (sr1.snoc hq ⟨_, upd_same, r1.mono e⟩) (.ob (at_snoc sr1 q))
    · exact p1.elim
end

/-! ### subscripts, slices -/
def oIx : OF := fun a b S => match a, b with
  | .str z, .int i => if szOk z.length then match atI z.cps.toList i with | some c => .ok (.str ⟨#[c]⟩) S | none => .no else .no
  | .tup xs, .int i => match atI xs i with | some d => .ok d S | none => .no
  | a, .int i => match lstOf a S with
    | some xs => match atI xs i with | some d => .ok d S | none => .no
    | none => .no
  | _, _ => .no
theorem Rps.atI {K : PySem.W.Frag} {mg : MG} {φ : List Addr} {H : Hp} {vs : List V} {ds : List D} {i : Int} {d : D} (r : Rps K mg φ H vs ds) (h : L2.atI ds i = some d) : ∃ v, L2.atI vs i = some v ∧ Rp K mg φ H v d := by
  unfold L2.atI at h ⊢
  rw [r.length]
  cases e : ixN ds.length i with
  | none => rw [e] at h; cases h
  | some j =>
    rw [e] at h
    exact r.get h
theorem oIx_ok {K : PySem.W.Frag} {mg : MG} : Op2 K mg (rIx K) oIx := fun W φ S H σ x y a b Q s ra rb p => by
  unfold oIx at p
  split at p
  · split at p
    · rename_i hz
      split at p
      · rename_i c e
        cases ra; cases rb
        exact .inr (.inr ⟨_, _, c, rfl, rfl, szOk.le hz, e, p φ H _ Ext.rfl' s (.str _)⟩)
      · exact p.elim
    · exact p.elim
  · split at p
    · rename_i d e
      cases rb
      cases ra with
      | tup t rs =>
        obtain ⟨v, h1, r1⟩ := rs.atI e
        exact .inr (.inl ⟨_, _, _, v, rfl, rfl, t.sq, h1, p φ H v Ext.rfl' s r1⟩)
    · exact p.elim
  · split at p
    · rename_i xs e0
      split at p
      · rename_i d e
        cases rb
        obtain ⟨l, us, rfl, g, rs⟩ := lstOf_ok s ra e0
        obtain ⟨v, h1, r1⟩ := rs.atI e
        exact .inl ⟨_, _, _, v, rfl, rfl, .of g, h1, p φ H v Ext.rfl' s r1⟩
      · exact p.elim
    · exact p.elim
  · exact p.elim
theorem de_ix {X : Cx} {W : WX} {a b : Expr} {fa fb : EF} {pos : Pos} (ha : DE X W a fa) (hb : DE X W b fb) (hs : PlainIx b := by intro _ _; rfl) : DE X W (.Subscript a b pos) (eOp oIx fa fb) :=
  pe_wk (pe_ix ix_seq ha hb hs) (tOp_of oIx_ok)
/-- a slice's part -/
abbrev PF := Lc → Sto → Res (Option Int)
abbrev RO : Rl (Option Int) (Option Int) := fun _ _ x a => x = a
def pNo : PF := fun _ S => .ok none S
def pAt (a : EF) : PF := fun ρ S => (a ρ S).bind fun d S1 => match d with | .int i => .ok (some i) S1 | _ => .no
def DO (X : Cx) (W : WX) (e : Option Expr) (f : PF) : Prop := PO X e (lf RO X.K X.M W f)
theorem po_wk {X : Cx} {e : Option Expr} {t t' : TO} (h : PO X e t) (q : ∀ σ H Q, t' σ H Q → t σ H Q) : PO X e t' := ⟨fun pins s σ H Q I z => h.run pins s σ H Q I (q σ H Q z)⟩
theorem do_no {X : Cx} {W : WX} : DO X W none pNo := po_wk po_none fun σ H Q ⟨φ, ρ, S, er, sr, p⟩ => p φ H none Ext.rfl' sr rfl
theorem do_at {X : Cx} {W : WX} {e : Expr} {fa : EF} (h : DE X W e fa) : DO X W (some e) (pAt fa) := po_wk (po_some h) fun σ H Q ⟨φ, ρ, S, er, sr, p⟩ =>
  (lf.bind er sr p).imp fun x H1 ⟨φ1, S1, d, e1, sr1, r1, p1⟩ => by
    split at p1
    · cases r1
      exact ⟨_, rfl, p1 φ1 H1 _ Ext.rfl' sr1 rfl⟩
    · exact p1.elim
def cutD {α : Type} (xs : List α) (lo hi : Option Int) : List α := (xs.drop (HT.sIx xs.length 0 lo)).take (HT.sIx xs.length xs.length hi - HT.sIx xs.length 0 lo)
theorem Rps.cut {K : PySem.W.Frag} {mg : MG} {φ : List Addr} {H : Hp} {vs : List V} {ds : List D} (r : Rps K mg φ H vs ds) (lo hi : Option Int) : Rps K mg φ H (cutV vs lo hi) (cutD ds lo hi) := by
  unfold cutV cutD
  rw [r.length]
  exact (r.drop _).take _
def oSl (d : D) (lo hi : Option Int) (S : Sto) : Res D := match d with
  | .tup xs => .ok (.tup (cutD xs lo hi)) S
  | .str z => if szOk z.length then .ok (.str (cutS z lo hi)) S else .no
  | d => match lstOf d S with
    | some xs => .ok (.lst (cutD xs lo hi)) S
    | none => .no
def oSlS (d : D) (lo hi : Option Int) (S : Sto) : Res D := match lstOf d S with
    | some xs => .ok (.ob S.length) (S ++ [.lst (cutD xs lo hi)])
    | none => .no
def eSl (a : EF) (lo hi : PF) : EF := fun ρ S => (a ρ S).bind fun d S1 => (lo ρ S1).bind fun l S2 => (hi ρ S2).bind fun u S3 => oSl d l u S3
def eSlS (a : EF) (lo hi : PF) : EF := fun ρ S => (a ρ S).bind fun d S1 => (lo ρ S1).bind fun l S2 => (hi ρ S2).bind fun u S3 => oSlS d l u S3
abbrev rSlAll (K : PySem.W.Frag) : V → Option Int → Option Int → Hp → VK → Prop := fun x lo hi H Q => rSlA K x lo hi H Q ∨ (fun x lo hi H Q => rSlL K x lo hi H Q ∨ rSlS x lo hi H Q) x lo hi H Q
theorem sl_all {X : Cx} : SlR X (rSlAll X.K) := SlR.or sl_tupA (SlR.or sl_list sl_str)
theorem cutV_whole (xs : List V) (lo hi : Option Int) (h : HT.sIx xs.length 0 lo = 0 ∧ HT.sIx xs.length xs.length hi = xs.length) : cutV xs lo hi = xs := by
  unfold cutV
  rw [h.1, h.2, List.drop_zero, Nat.sub_zero, List.take_length]
theorem oSl_ok {K : PySem.W.Frag} {mg : MG} {W : WX} {φ : List Addr} {S : Sto} {H : Hp} {σ : L2.St} {x : V} {d : D} {lo hi : Option Int} {Q : VK} (s : Sr K mg φ S H) (r : Rp K mg φ H x d) (p : post (Rp K mg) K mg W φ H σ Q (oSl d lo hi S)) : rSlAll K x lo hi H Q := by
  unfold oSl at p
  split at p
  · cases r with
    | tup t rs =>
      refine .inl ⟨_, _, rfl, t.sq, fun h => ?_, fun _ q hq => ?_⟩
      · have rc := rs.cut lo hi
        rw [cutV_whole _ _ _ h] at rc
        exact p φ H _ Ext.rfl' s (.tup t rc)
      · exact p φ _ _ (Ext.new hq) (s.new hq) (.tup (.inl (s.im hq)) ((rs.cut lo hi).mono (Ext.new hq)))
  · split at p
    · rename_i hz
      cases r
      exact .inr (.inr ⟨_, rfl, szOk.le hz, p φ H _ Ext.rfl' s (.str _)⟩)
    · exact p.elim
  · split at p
    · rename_i xs e0
      obtain ⟨l, us, rfl, g, rs⟩ := lstOf_ok s r e0
      exact .inr (.inl ⟨_, _, rfl, .of g, fun q hq => p φ _ _ (Ext.new hq) (s.new hq) (.lst (s.im hq) ((rs.cut lo hi).mono (Ext.new hq)))⟩)
    · exact p.elim
theorem oSlS_ok {K : PySem.W.Frag} {mg : MG} {W : WX} {φ : List Addr} {S : Sto} {H : Hp} {σ : L2.St} {x : V} {d : D} {lo hi : Option Int} {Q : VK} (s : Sr K mg φ S H) (r : Rp K mg φ H x d) (p : post (Rp K mg) K mg W φ H σ Q (oSlS d lo hi S)) : rSlAll K x lo hi H Q := by
  unfold oSlS at p
  split at p
  · rename_i xs e0
    obtain ⟨l, us, rfl, g, rs⟩ := lstOf_ok s r e0
    refine .inr (.inl ⟨_, _, rfl, .of g, fun q hq => ?_⟩)
    have e := Ext.newSnoc (φ := φ) (o := .lst (cutV us lo hi)) hq
    exact p _ _ _ e (s.snoc hq ⟨_, upd_same, (rs.cut lo hi).mono e⟩) (.ob (at_snoc s q))
  · exact p.elim
theorem de_sl {X : Cx} {W : WX} {a : Expr} {lo hi : Option Expr} {fa : EF} {fl fh : PF} {p2 pos : Pos} (ha : DE X W a fa) (hl : DO X W lo fl) (hh : DO X W hi fh) : DE X W (.Subscript a (.Slice lo hi none p2) pos) (eSl fa fl fh) :=
  pe_wk (pe_slice sl_all ha hl hh) fun σ H Q ⟨φ, ρ, S, er, sr, p⟩ => (lf.bind er sr p).imp fun x H1 ⟨φ1, S1, d, e1, sr1, r1, p1⟩ =>
    (lf.bind (er.mono e1) sr1 p1).imp fun l H2 ⟨φ2, S2, l', e2, sr2, r2, p2⟩ => (lf.bind ((er.mono e1).mono e2) sr2 p2).imp fun u H3 ⟨φ3, S3, u', e3, sr3, r3, p3⟩ => by
      cases r2; cases r3
      exact oSl_ok sr3 ((r1.mono e2).mono e3) p3
theorem de_slS {X : Cx} {W : WX} {a : Expr} {lo hi : Option Expr} {fa : EF} {fl fh : PF} {p2 pos : Pos} (ha : DE X W a fa) (hl : DO X W lo fl) (hh : DO X W hi fh) : DE X W (.Subscript a (.Slice lo hi none p2) pos) (eSlS fa fl fh) :=
  pe_wk (pe_slice sl_all ha hl hh) fun σ H Q ⟨φ, ρ, S, er, sr, p⟩ => (lf.bind er sr p).imp fun x H1 ⟨φ1, S1, d, e1, sr1, r1, p1⟩ =>
    (lf.bind (er.mono e1) sr1 p1).imp fun l H2 ⟨φ2, S2, l', e2, sr2, r2, p2⟩ => (lf.bind ((er.mono e1).mono e2) sr2 p2).imp fun u H3 ⟨φ3, S3, u', e3, sr3, r3, p3⟩ => by
      cases r2; cases r3
      exact oSlS_ok sr3 ((r1.mono e2).mono e3) p3

/-! ### calls -/
abbrev FF := List D → Sto → Res D
abbrev wF : WX := fun _ _ _ _ => False
/-- the promise of a def: what F says, exceptions too -/
def spF (K : PySem.W.Frag) (mg : MG) (n : Nat) (F : FF) : Sp := fun vs H Q E => vs.length = n ∧ ∃ φ ds S, Rps K mg φ H vs ds ∧ Sr K mg φ S H ∧ post (Rp K mg) K mg (fun c d _ H => E c d H) φ H [] Q (F ds S)
def eCall (F : FF) (a : AF) : EF := fun ρ S => (a ρ S).bind fun ds S1 => F ds S1
theorem tCall_of {K : PySem.W.Frag} {mg : MG} {W : WX} {n : Nat} {F : FF} {ga : AF} (hl : ∀ ρ S ds S', ga ρ S = .ok ds S' → ds.length = n) : ∀ σ H Q, lE K mg W (eCall F ga) σ H Q → tCallS (spF K mg n F) (WE W) (lA K mg W ga) σ H Q := fun σ H Q ⟨φ, ρ, S, er, sr, p⟩ => by
  have h2 : lA K mg W ga σ H fun vs H1 => (∃ φ1 S1 ds, Ext φ H φ1 H1 ∧ Sr K mg φ1 S1 H1 ∧ Rps K mg φ1 H1 vs ds ∧ post (Rp K mg) K mg W φ1 H1 σ Q (F ds S1) ∧ ds.length = n) := by
    refine ⟨φ, ρ, S, er, sr, ?_⟩
    unfold eCall at p
    cases e : ga ρ S with
    | ok ds S1 =>
      rw [e] at p
      exact fun φ' H' x e' s r => ⟨φ', S1, ds, e', s, r, post.mono e' p, hl _ _ _ _ e⟩
    | ex c S1 => rw [e] at p; exact p
    | no => rw [e] at p; exact p
  refine lf.imp (fun vs H1 h => ?_) h2
  obtain ⟨φ1, S1, ds, e1, sr1, r1, p1, l1⟩ := h
  refine ⟨by rw [r1.length, l1], φ1, ds, S1, r1, sr1, ?_⟩
  cases hF : F ds S1 with
  | ok a S2 => rw [hF] at p1; exact p1
  | ex c S2 => rw [hF] at p1; exact p1
  | no => rw [hF] at p1; exact p1
/-- how many arguments are written -/
def aLen (ga : AF) (n : Nat) : Prop := ∀ ρ S ds S', ga ρ S = .ok ds S' → ds.length = n
theorem aLen_nil : aLen aNil 0 := fun _ _ _ _ e => by cases e; rfl
theorem aLen_cons {fa : EF} {ga : AF} {n : Nat} (h : aLen ga n) : aLen (aCons fa ga) (n + 1) := fun ρ S ds S' e => by
  unfold aCons at e
  cases e1 : fa ρ S with
  | ok d S1 =>
    rw [e1] at e
    simp only [Res.bind] at e
    cases e2 : ga ρ S1 with
    | ok ds2 S2 =>
      rw [e2] at e
      cases e
      exact congrArg (· + 1) (h _ _ _ _ e2)
    | ex _ _ => rw [e2] at e; cases e
    | no => rw [e2] at e; cases e
  | ex _ _ => rw [e1] at e; cases e
  | no => rw [e1] at e; cases e
theorem de_call {X : Cx} {W : WX} {k n : Nat} {f : Addr} {fd : FuncData} {ps : List Str} {F : FF} {x : Str} {p pos : Pos} {e : Expr} {es : List Expr} {ga : AF}
    (G : FnOk X.prog X.w X.K X.mg X.base (L2.CX X.prog X.w) k f fd ps (spF X.K X.M n F)) (hr : Room k X.A) (tk : Takes X W) (hg : Gl X x) (hm : X.mg x = some (.ref f)) (hk : PySem.W.keepIn X.K (.ref f) = true) (hb : Binds X.K fd ps [])
    (ha : DA X W (e :: es) ga) (hl : aLen ga n) (hdb : (x == ("__debug__" : Str)) = false := by decide)
    (he : starEach (e :: es) X.env = (false, eval e X.env) :: starEach es X.env := by rfl) (hpl : (backTo pos (starEach es X.env)).any (·.1) = false := by rfl) :
    DE X W (.Call (.Name x p) (e :: es) [] pos) (eCall F ga) :=
  pe_wk (pe_callS G hr hg hm hk hb (fun σ => passAt tk σ) ha hdb he hpl) (tCall_of hl)
/-- built-in functions by values -/
def Cal (K : PySem.W.Frag) (mg : MG) (r : List V → Hp → VK → Prop) (c : FF) : Prop := ∀ (W : WX) (φ : List Addr) (S : Sto) (H : Hp) (σ : L2.St) (xs : List V) (ds : List D) (Q : VK), Sr K mg φ S H → Rps K mg φ H xs ds → post (Rp K mg) K mg W φ H σ Q (c ds S) → r xs H Q
def eB (c : FF) (a : AF) : EF := fun ρ S => (a ρ S).bind fun ds S1 => c ds S1
theorem tCB_of {K : PySem.W.Frag} {mg : MG} {W : WX} {r : List V → Hp → VK → Prop} {c : FF} {ga : AF} (hc : Cal K mg r c) : ∀ σ H Q, lE K mg W (eB c ga) σ H Q → tCB r (lA K mg W ga) σ H Q := fun σ H Q ⟨φ, ρ, S, er, sr, p⟩ =>
  (lf.bind er sr p).imp fun xs H1 ⟨φ1, S1, ds, e1, sr1, r1, p1⟩ => hc W φ1 S1 H1 σ xs ds Q sr1 r1 p1
end DV
set_option Elab.async false
set_option linter.all false
set_option maxRecDepth 100000
namespace DV
open PySem PySem.Spec PyProof.Rows L2

/-! ### built-in functions -/
def cLen : FF
  | [.tup xs], S => .ok (.int xs.length) S
  | [.str z], S => if szOk z.length then .ok (.int z.length) S else .no
  | [d], S => match lstOf d S with
    | some xs => .ok (.int xs.length) S
    | none => .no
  | _, _ => .no
theorem cLen_ok {K : PySem.W.Frag} {mg : MG} : Cal K mg (fun xs H Q => ∃ x n, xs = [x] ∧ LenV K x H n ∧ Q (.int n) H) cLen := fun W φ S H σ xs ds Q s r p => by
  unfold cLen at p
  split at p
  · cases r with
    | cons a b =>
      cases b
      cases a with
      | tup t rs =>
        refine ⟨_, _, rfl, .inr ⟨_, t.sq, rfl⟩, ?_⟩
        rw [rs.length]
        exact p φ H _ Ext.rfl' s (.int _)
  · split at p
    · rename_i hz
      cases r with
      | cons a b =>
        cases b
        cases a
        exact ⟨_, _, rfl, ⟨szOk.le hz, rfl⟩, p φ H _ Ext.rfl' s (.int _)⟩
    · exact p.elim
  · split at p
    · rename_i xs e
      cases r with
      | cons a b =>
        cases b
        obtain ⟨l, us, rfl, g, rs⟩ := lstOf_ok s a e
        refine ⟨_, _, rfl, .inl ⟨_, .of g, rfl⟩, ?_⟩
        rw [rs.length]
        exact p φ H _ Ext.rfl' s (.int _)
    · exact p.elim
  · exact p.elim
def cAbs : FF
  | [.int i], S => .ok (.int (if i < 0 then -i else i)) S
  | _, _ => .no
theorem cAbs_ok {K : PySem.W.Frag} {mg : MG} : Cal K mg (fun xs H Q => ∃ i, xs = [.int i] ∧ Q (.int (if i < 0 then -i else i)) H) cAbs := fun W φ S H σ xs ds Q s r p => by
  unfold cAbs at p
  split at p
  · cases r with
    | cons a b => cases b; cases a; exact ⟨_, rfl, p φ H _ Ext.rfl' s (.int _)⟩
  · exact p.elim
def cInt : FF
  | [.int i], S => .ok (.int i) S
  | [.bl k], S => .ok (.int (if k then 1 else 0)) S
  | _, _ => .no
theorem cInt_ok {K : PySem.W.Frag} {mg : MG} : Cal K mg (fun xs H Q => (∃ i, xs = [.int i] ∧ Q (.int i) H) ∨ ∃ k, xs = [.bl k] ∧ Q (.int (if k then 1 else 0)) H) cInt := fun W φ S H σ xs ds Q s r p => by
  unfold cInt at p
  split at p
  · cases r with
    | cons a b => cases b; cases a; exact .inl ⟨_, rfl, p φ H _ Ext.rfl' s (.int _)⟩
  · cases r with
    | cons a b => cases b; cases a; exact .inr ⟨_, rfl, p φ H _ Ext.rfl' s (.int _)⟩
  · exact p.elim
def cGcd : FF
  | [.int i, .int j], S => .ok (.int ((Nat.gcd i.natAbs j.natAbs : Nat) : Int)) S
  | _, _ => .no
theorem cGcd_ok {K : PySem.W.Frag} {mg : MG} : Cal K mg rGcd cGcd := fun W φ S H σ xs ds Q s r p => by
  unfold cGcd at p
  split at p
  · cases r with
    | cons a b =>
      cases b with
      | cons c d => cases d; cases a; cases c; exact ⟨_, _, rfl, p φ H _ Ext.rfl' s (.int _)⟩
  · exact p.elim
def cMin : FF
  | [.int i, .int j], S => .ok (.int (if j < i then j else i)) S
  | _, _ => .no
theorem cMin_ok {K : PySem.W.Frag} {mg : MG} : Cal K mg (fun xs H Q => ∃ i j, xs = [.int i, .int j] ∧ Q (.int (if j < i then j else i)) H) cMin := fun W φ S H σ xs ds Q s r p => by
  unfold cMin at p
  split at p
  · cases r with
    | cons a b =>
      cases b with
      | cons c d => cases d; cases a; cases c; exact ⟨_, _, rfl, p φ H _ Ext.rfl' s (.int _)⟩
  · exact p.elim
def cMax : FF
  | [.int i, .int j], S => .ok (.int (if j > i then j else i)) S
  | _, _ => .no
theorem cMax_ok {K : PySem.W.Frag} {mg : MG} : Cal K mg (fun xs H Q => ∃ i j, xs = [.int i, .int j] ∧ Q (.int (if j > i then j else i)) H) cMax := fun W φ S H σ xs ds Q s r p => by
  unfold cMax at p
  split at p
  · cases r with
    | cons a b =>
      cases b with
      | cons c d => cases d; cases a; cases c; exact ⟨_, _, rfl, p φ H _ Ext.rfl' s (.int _)⟩
  · exact p.elim
/-- what class a datum is of -/
def tyD : D → Sto → Option String
  | .non, _ => some "NoneType"
  | .bl _, _ => some "bool"
  | .int _, _ => some "int"
  | .str _, _ => some "str"
  | .tup _, _ => some "tuple"
  | .lst _, _ => some "list"
  | .dct _, _ => some "dict"
  | .ob n, S => match S[n]? with
    | some (.lst _) => some "list"
    | some (.dic _) => some "dict"
    | _ => none
  | _, _ => none
theorem tyD_ok {K : PySem.W.Frag} {mg : MG} {φ : List Addr} {H : Hp} {S : Sto} {v : V} {d : D} {t : String} (s : Sr K mg φ S H) (r : Rp K mg φ H v d) (h : tyD d S = some t) : TyX K H v (.type t) := by
  cases d with
  | non => cases r; cases h; exact .base .non
  | bl b => cases r; cases h; exact .base (.bl b)
  | int b => cases r; cases h; exact .base (.int b)
  | str b => cases r; cases h; exact .base (.str b)
  | tup ds =>
    cases r with
    | tup q rs =>
      cases h
      rcases q.sq with (q | ⟨o, q⟩) | ⟨o, its, n, q, hc, _⟩
      · exact .base (.tup q)
      · exact .fTuple q
      · exact .kTuple q hc
  | lst ds =>
    cases r with
    | lst q rs => cases h; exact .base (.lst q.2)
  | dct ds =>
    cases r with
    | dct q kk rs => cases h; exact .base (.dK q.2)
  | ob n =>
    cases r with
    | ob hn =>
      simp only [tyD] at h
      split at h
      · rename_i e
        cases h
        obtain ⟨us, g, _⟩ := s.lst hn e
        exact .base (.lst g)
      · rename_i e
        cases h
        obtain ⟨b, h1, ws, g, _⟩ := s.at' n _ e
        rw [hn] at h1; cases h1
        exact .base (.dK g)
      · cases h
  | _ => cases h
def isD (d : D) (S : Sto) (b : String) : Option Bool := match tyD d S with
  | some t => kitB t b
  | none => none
/-- isinstance(e, T) -/
def eIs (a : EF) (b : String) : EF := fun ρ S => (a ρ S).bind fun d S1 => match isD d S1 b with
  | some k => .ok (.bl k) S1
  | none => .no
/-- isinstance(e, (T, U)) -/
def eIs2 (a : EF) (b c : String) : EF := fun ρ S => (a ρ S).bind fun d S1 => match tyD d S1 with
  | some t => (match kitB t b, kitB t c with
    | some k, some l => .ok (.bl (k || l)) S1
    | _, _ => .no)
  | none => .no
theorem isD_ok {K : PySem.W.Frag} {mg : MG} {φ : List Addr} {H : Hp} {S : Sto} {v : V} {d : D} {b : String} {k : Bool} (s : Sr K mg φ S H) (r : Rp K mg φ H v d) (h : isD d S b = some k) : ∃ t, TyX K H v (.type t) ∧ kitB t b = some k := by
  unfold isD at h
  split at h
  · rename_i t e
    exact ⟨t, tyD_ok s r e, h⟩
  · cases h
section
variable {X : Cx} {W : WX} {e : Expr} {fa : EF} {pos : Pos}
theorem de_isi {b : String} (h : PE X e (tCB (rIsi X.K) (tCons (lE X.K X.M W fa) (tCons (tC (.ty b)) tNil)))) : DE X W e (eIs fa b) :=
  pe_wk h fun σ H Q ⟨φ, ρ, S, er, sr, p⟩ => (lf.bind er sr p).imp fun x H1 ⟨φ1, S1, d, e1, sr1, r1, p1⟩ => by
    split at p1
    · rename_i k hk
      obtain ⟨t, h1, h2⟩ := isD_ok sr1 r1 hk
      exact ⟨x, .ty b, _, _, k, rfl, .ty b, h1, kit_ty h2, p1 φ1 H1 _ Ext.rfl' sr1 (.bl _)⟩
    · exact p1.elim
theorem de_isi2 {b c : String} (h : PE X e (tCB (rIsiT X.K) (tCons (lE X.K X.M W fa) (tCons (tTup (tCons (tC (.ty b)) (tCons (tC (.ty c)) tNil))) tNil)))) : DE X W e (eIs2 fa b c) :=
  pe_wk h fun σ H Q ⟨φ, ρ, S, er, sr, p⟩ => (lf.bind er sr p).imp fun x H1 ⟨φ1, S1, d, e1, sr1, r1, p1⟩ => by
    split at p1
    · rename_i t ht
      split at p1
      · rename_i k l hk hl
        refine ⟨by show 2 ≤ sizeLine; rw [sizeLine_eq]; decide, fun q hq => ?_⟩
        have e' := Ext.new (φ := φ1) (o := .tup [.ty b, .ty c]) hq
        refine ⟨x, q, _, _, [.type b, .type c], k || l, rfl, upd_same, .cons (.ty b) (.cons (.ty c) .nil), tyD_ok (sr1.new hq) (r1.mono e') ht, ?_, p1 φ1 _ _ e' (sr1.new hq) (.bl _)⟩
        exact kitAny_cons (kit_ty hk) (fun hb => by subst hb; exact kitAny_cons (kit_ty hl) (fun hb => by subst hb; rfl) fun hb => by subst hb; rfl) fun hb => by subst hb; rfl
      · exact p1.elim
    · exact p1.elim
end
def allBl : List D → Option (List Bool)
  | [] => some []
  | .bl b :: r => (allBl r).map (b :: ·)
  | _ :: _ => none
theorem allBl_ok {K : PySem.W.Frag} {mg : MG} {φ : List Addr} {H : Hp} : ∀ {vs : List V} {ds : List D} {bs : List Bool}, Rps K mg φ H vs ds → allBl ds = some bs → vs = bs.map V.bl
  | _, _, bs, .nil, h => by cases h; rfl
  | _, d :: r, bs, .cons a b, h => by
    cases d <;> simp only [allBl, Option.map_eq_some_iff, reduceCtorEq] at h
    obtain ⟨bs', h1, rfl⟩ := h
    cases a
    rw [allBl_ok b h1, List.map_cons]
def cAll : FF
  | [d], S => match lstOf d S with
    | some xs => match allBl xs with | some bs => .ok (.bl (bs.all id)) S | none => .no
    | none => .no
  | _, _ => .no
def cAny : FF
  | [d], S => match lstOf d S with
    | some xs => match allBl xs with | some bs => .ok (.bl (bs.any id)) S | none => .no
    | none => .no
  | _, _ => .no
theorem cAll_ok {K : PySem.W.Frag} {mg : MG} : Cal K mg (rAll K) cAll := fun W φ S H σ xs ds Q s r p => by
  unfold cAll at p
  split at p
  · split at p
    · rename_i ys e0
      split at p
      · rename_i bs eb
        cases r with
        | cons a b =>
          cases b
          obtain ⟨l, us, rfl, g, rs⟩ := lstOf_ok s a e0
          have := allBl_ok rs eb
          subst this
          exact ⟨_, bs, rfl, .of g, p φ H _ Ext.rfl' s (.bl _)⟩
      · exact p.elim
    · exact p.elim
  · exact p.elim
theorem cAny_ok {K : PySem.W.Frag} {mg : MG} : Cal K mg (rAny K) cAny := fun W φ S H σ xs ds Q s r p => by
  unfold cAny at p
  split at p
  · split at p
    · rename_i ys e0
      split at p
      · rename_i bs eb
        cases r with
        | cons a b =>
          cases b
          obtain ⟨l, us, rfl, g, rs⟩ := lstOf_ok s a e0
          have := allBl_ok rs eb
          subst this
          exact ⟨_, bs, rfl, .of g, p φ H _ Ext.rfl' s (.bl _)⟩
      · exact p.elim
    · exact p.elim
  · exact p.elim
def allInt : List D → Option (List Int)
  | [] => some []
  | .int b :: r => (allInt r).map (b :: ·)
  | _ :: _ => none
theorem allInt_ok {K : PySem.W.Frag} {mg : MG} {φ : List Addr} {H : Hp} : ∀ {vs : List V} {ds : List D} {bs : List Int}, Rps K mg φ H vs ds → allInt ds = some bs → vs = bs.map V.int
  | _, _, bs, .nil, h => by cases h; rfl
  | _, d :: r, bs, .cons a b, h => by
    cases d <;> simp only [allInt, Option.map_eq_some_iff, reduceCtorEq] at h
    obtain ⟨bs', h1, rfl⟩ := h
    cases a
    rw [allInt_ok b h1, List.map_cons]
def cSum : FF
  | [d], S => match lstOf d S with
    | some xs => match allInt xs with | some bs => .ok (.int bs.sum) S | none => .no
    | none => .no
  | _, _ => .no
theorem cSum_ok {K : PySem.W.Frag} {mg : MG} : Cal K mg (rSum K) cSum := fun W φ S H σ xs ds Q s r p => by
  unfold cSum at p
  split at p
  · split at p
    · rename_i ys e0
      split at p
      · rename_i bs eb
        cases r with
        | cons a b =>
          cases b
          obtain ⟨l, us, rfl, g, rs⟩ := lstOf_ok s a e0
          have := allInt_ok rs eb
          subst this
          exact ⟨_, bs, rfl, .of g, p φ H _ Ext.rfl' s (.int _)⟩
      · exact p.elim
    · exact p.elim
  · exact p.elim
/-- list(x): by value; cListS: an object of the store; tuple(x) -/
def cList : FF
  | [d], S => match seqOf d S with
    | some xs => .ok (.lst xs) S
    | none => .no
  | _, _ => .no
def cListS : FF
  | [d], S => match seqOf d S with
    | some xs => .ok (.ob S.length) (S ++ [.lst xs])
    | none => .no
  | _, _ => .no
abbrev rListOf (K : PySem.W.Frag) : List V → Hp → VK → Prop := fun xs H Q => ∃ p ys, xs = [.ref p] ∧ (SqL K H p ys ∨ SqT K H p ys) ∧ ∀ l, H l = none → Q (.ref l) (upd H l (.lst ys))
theorem cList_ok {K : PySem.W.Frag} {mg : MG} : Cal K mg (rListOf K) cList := fun W φ S H σ xs ds Q s r p => by
  unfold cList at p
  split at p
  · split at p
    · rename_i ys e0
      cases r with
      | cons a b =>
        cases b
        obtain ⟨l, us, rfl, g, rs⟩ := seqOf_ok s a e0
        exact ⟨_, _, rfl, g, fun q hq => p φ _ _ (Ext.new hq) (s.new hq) (.lst (s.im hq) (rs.mono (Ext.new hq)))⟩
    · exact p.elim
  · exact p.elim
theorem cListS_ok {K : PySem.W.Frag} {mg : MG} : Cal K mg (rListOf K) cListS := fun W φ S H σ xs ds Q s r p => by
  unfold cListS at p
  split at p
  · split at p
    · rename_i ys e0
      cases r with
      | cons a b =>
        cases b
        obtain ⟨l, us, rfl, g, rs⟩ := seqOf_ok s a e0
        refine ⟨_, _, rfl, g, fun q hq => ?_⟩
        have e := Ext.newSnoc (φ := φ) (o := .lst us) hq
        exact p _ _ _ e (s.snoc hq ⟨_, upd_same, rs.mono e⟩) (.ob (at_snoc s q))
    · exact p.elim
  · exact p.elim
def cTuple : FF
  | [.tup xs], S => .ok (.tup xs) S
  | [d], S => match lstOf d S with
    | some xs => .ok (.tup xs) S
    | none => .no
  | _, _ => .no
theorem cTuple_ok {K : PySem.W.Frag} {mg : MG} : Cal K mg (fun xs H Q => ∃ p ys, xs = [.ref p] ∧ ((SqL K H p ys ∧ ∀ l, H l = none → Q (.ref l) (upd H l (.tup ys))) ∨ (SqT K H p ys ∧ Q (.ref p) H))) cTuple := fun W φ S H σ xs ds Q s r p => by
  unfold cTuple at p
  split at p
  · cases r with
    | cons a b =>
      cases b
      cases a with
      | tup t rs => exact ⟨_, _, rfl, .inr ⟨t.sq, p φ H _ Ext.rfl' s (.tup t rs)⟩⟩
  · split at p
    · rename_i ys e0
      cases r with
      | cons a b =>
        cases b
        obtain ⟨l, us, rfl, g, rs⟩ := lstOf_ok s a e0
        exact ⟨_, _, rfl, .inl ⟨.of g, fun q hq => p φ _ _ (Ext.new hq) (s.new hq) (.tup (.inl (s.im hq)) (rs.mono (Ext.new hq)))⟩⟩
    · exact p.elim
  · exact p.elim

/-! ### methods of lists -/
def eApp (a b : EF) : EF := fun ρ S => (a ρ S).bind fun l S1 => match l with
  | .ob n => (match S1[n]? with
    | some (.lst _) => (b ρ S1).bind fun d S2 => (match S2[n]? with
      | some (.lst xs) => if szOk xs.length then .ok .non (S2.set n (.lst (xs ++ [d]))) else .no
      | _ => .no)
    | _ => .no)
  | _ => .no
def ePop (a : EF) : EF := fun ρ S => (a ρ S).bind fun l S1 => match l with
  | .ob n => match S1[n]? with
    | some (.lst xs) => match xs[xs.length - 1]? with
      | some d => .ok d (S1.set n (.lst xs.dropLast))
      | none => .no
    | _ => .no
  | _ => .no
theorem Rps.dropLast {K : PySem.W.Frag} {mg : MG} {φ : List Addr} {H : Hp} {vs : List V} {ds : List D} (r : Rps K mg φ H vs ds) : Rps K mg φ H vs.dropLast ds.dropLast := by
  rw [List.dropLast_eq_take, List.dropLast_eq_take, r.length]
  exact r.take _
section
variable {X : Cx} {W : WX} {o e : Expr} {fa fb : EF} {pos : Pos}
theorem de_app {w : Expr} (h : PE X w (tBM X.K "list" rAppend (lE X.K X.M W fa) (tCons (lE X.K X.M W fb) tNil))) : DE X W w (eApp fa fb) :=
  pe_wk h fun σ H Q ⟨φ, ρ, S, er, sr, p⟩ => (lf.bind er sr p).imp fun x H1 ⟨φ1, S1, d, e1, sr1, r1, p1⟩ => by
    split at p1
    · split at p1
      · rename_i ys hy
        cases r1 with
        | ob hn =>
          obtain ⟨us, g, rs⟩ := sr1.lst hn hy
          refine ⟨.inl ⟨rfl, _, .of g⟩, ?_⟩
          refine (lf.bind (er.mono e1) sr1 p1).imp fun y H2 ⟨φ2, S2, d2, e2, sr2, r2, p2⟩ => ?_
          split at p2
          · rename_i xs hx
            split at p2
            · rename_i hz
              have hn2 := e2.pre _ _ hn
              obtain ⟨us2, g2, rs2⟩ := sr2.lst hn2 hx
              refine ⟨_, us2, y, rfl, rfl, g2, by rw [rs2.length]; exact szOk.lt hz, ?_⟩
              have ex : Ext φ2 H2 φ2 (upd H2 _ (.lst (us2 ++ [y]))) := Ext.put hn2
              exact p2 φ2 _ _ ex (sr2.put hn2 ⟨_, upd_same, (rs2.append (.cons r2 .nil)).mono ex⟩) .non
            · exact p2.elim
          · exact p2.elim
      · exact p1.elim
    · exact p1.elim
theorem de_pop {w : Expr} (h : PE X w (tBM0 X.K "list" rPop (lE X.K X.M W fa))) : DE X W w (ePop fa) :=
  pe_wk h fun σ H Q ⟨φ, ρ, S, er, sr, p⟩ => (lf.bind er sr p).imp fun x H1 ⟨φ1, S1, d, e1, sr1, r1, p1⟩ => by
    split at p1
    · split at p1
      · rename_i xs hx
        split at p1
        · rename_i d hd
          cases r1 with
          | ob hn =>
            obtain ⟨us, g, rs⟩ := sr1.lst hn hx
            obtain ⟨v, hv, rv⟩ := rs.get hd
            rw [← rs.length] at hv
            refine ⟨.inl ⟨rfl, _, .of g⟩, _, us, v, rfl, rfl, g, hv, ?_⟩
            have ex : Ext φ1 H1 φ1 (upd H1 _ (.lst us.dropLast)) := Ext.put hn
            exact p1 φ1 _ _ ex (sr1.put hn ⟨_, upd_same, rs.dropLast.mono ex⟩) (rv.mono ex)
        · exact p1.elim
      · exact p1.elim
    · exact p1.elim
end
end DV
set_option Elab.async false
set_option linter.all false
set_option maxRecDepth 100000
namespace DV
open PySem PySem.Spec PyProof.Rows L2

/-! ### targets: names, tuples and lists of names -/
inductive Tg where
  | nm (i : Nat)
  | tp (ts : List Tg)
  | ls (ts : List Tg)
mutual
def Tg.put : Tg → D → Lc → Sto → Option Lc
  | .nm i, d, ρ, _ => some (ρ.set i (some d))
  | .tp ts, d, ρ, S => match seqOf d S with
    | some ds => Tg.puts ts ds ρ S
    | none => none
  | .ls ts, d, ρ, S => match lstOf d S with
    | some ds => Tg.puts ts ds ρ S
    | none => none
def Tg.puts : List Tg → List D → Lc → Sto → Option Lc
  | [], [], ρ, _ => some ρ
  | t :: ts, d :: ds, ρ, S => match Tg.put t d ρ S with
    | some ρ' => Tg.puts ts ds ρ' S
    | none => none
  | _, _, _, _ => none
end
mutual
def gOf (K : PySem.W.Frag) : Tg → TG
  | .nm i => gName i
  | .tp ts => fun v σ H Q => gTup K ts.length (gsOf K ts) v σ H Q ∨ gLst K ts.length (gsOf K ts) v σ H Q
  | .ls ts => gLst K ts.length (gsOf K ts)
def gsOf (K : PySem.W.Frag) : List Tg → TGs
  | [] => gNil
  | t :: ts => gCons (gOf K t) (gsOf K ts)
end
mutual
def Tg.slots : Tg → List Nat
  | .nm i => [i]
  | .tp ts => Tg.slotss ts
  | .ls ts => Tg.slotss ts
def Tg.slotss : List Tg → List Nat
  | [] => []
  | t :: ts => Tg.slots t ++ Tg.slotss ts
end
/-- alike but at these slots -/
def SameBut (vs : List Nat) (σ σ' : L2.St) : Prop := σ'.length = σ.length ∧ ∀ j, j ∉ vs → σ'[j]? = σ[j]?
theorem SameBut.refl {vs : List Nat} {σ : L2.St} : SameBut vs σ σ := ⟨rfl, fun _ _ => rfl⟩
theorem SameBut.trans {vs : List Nat} {σ σ1 σ2 : L2.St} (a : SameBut vs σ σ1) (b : SameBut vs σ1 σ2) : SameBut vs σ σ2 := ⟨b.1.trans a.1, fun j h => (b.2 j h).trans (a.2 j h)⟩
theorem SameBut.mono {vs ws : List Nat} {σ σ1 : L2.St} (a : SameBut vs σ σ1) (h : ∀ j ∈ vs, j ∈ ws) : SameBut ws σ σ1 := ⟨a.1, fun j hj => a.2 j fun z => hj (h j z)⟩
theorem wipe_at {σ : L2.St} {i : Nat} : ∀ {vs : List Nat}, (wipe σ vs)[i]? = if i ∈ vs ∧ i < σ.length then some none else σ[i]?
  | [] => by simp [wipe]
  | v :: vs => by
    unfold wipe
    rw [List.getElem?_set, wipe_length, wipe_at]
    by_cases hv : v = i
    · subst hv
      by_cases hl : v < σ.length
      · simp [hl]
      · rw [if_pos rfl, if_neg hl, if_neg (fun z => hl z.2), List.getElem?_eq_none (by omega)]
    · rw [if_neg hv]
      have e : (i ∈ v :: vs ∧ i < σ.length) ↔ (i ∈ vs ∧ i < σ.length) := by
        constructor
        · rintro ⟨h1, h2⟩
          rcases List.mem_cons.mp h1 with z | z
          · exact absurd z.symm hv
          · exact ⟨z, h2⟩
        · rintro ⟨h1, h2⟩
          exact ⟨List.mem_cons_of_mem _ h1, h2⟩
      by_cases hc : i ∈ vs ∧ i < σ.length
      · rw [if_pos hc, if_pos (e.mpr hc)]
      · rw [if_neg hc, if_neg (fun z => hc (e.mp z))]
theorem SameBut.wipe {vs : List Nat} {σ σ' : L2.St} (h : SameBut vs σ σ') : wipe σ' vs = wipe σ vs := by
  refine List.ext_getElem? fun i => ?_
  rw [wipe_at, wipe_at, h.1]
  by_cases hc : i ∈ vs ∧ i < σ.length
  · rw [if_pos hc, if_pos hc]
  · rw [if_neg hc, if_neg hc]
    by_cases hi : i ∈ vs
    · have hl : σ.length ≤ i := by
        have : ¬ i < σ.length := fun z => hc ⟨hi, z⟩
        omega
      rw [List.getElem?_eq_none (by rw [h.1]; exact hl), List.getElem?_eq_none hl]
    · exact h.2 i hi
section
variable {K : PySem.W.Frag} {mg : MG} {φ : List Addr} {S : Sto} {H : Hp}
mutual
theorem gOf_ok (s : Sr K mg φ S H) : ∀ (t : Tg) (v : V) (d : D) (σ : L2.St) (ρ ρ' : Lc) (Q : L2.St → Hp → Prop), Er K mg φ H σ ρ → Rp K mg φ H v d → t.put d ρ S = some ρ' → (∀ σ', Er K mg φ H σ' ρ' → SameBut t.slots σ σ' → Q σ' H) → gOf K t v σ H Q
  | .nm i, v, d, σ, ρ, ρ', Q, er, r, h, q => by
    cases h
    refine q _ (er.set r i) ⟨by simp, fun j hj => ?_⟩
    rw [List.getElem?_set, if_neg]
    rintro rfl
    exact hj (by simp [Tg.slots])
  | .tp ts, v, d, σ, ρ, ρ', Q, er, r, h, q => by
    simp only [Tg.put] at h
    split at h
    · rename_i ds e
      obtain ⟨l, us, rfl, g, rs⟩ := seqOf_ok s r e
      obtain ⟨hl, hg⟩ := gsOf_ok s ts _ ds σ ρ ρ' Q er rs h q
      rcases g with g | g
      · exact .inr ⟨_, _, rfl, g, by rw [rs.length, hl], hg⟩
      · exact .inl ⟨_, _, rfl, g, by rw [rs.length, hl], hg⟩
    · cases h
  | .ls ts, v, d, σ, ρ, ρ', Q, er, r, h, q => by
    simp only [Tg.put] at h
    split at h
    · rename_i ds e
      obtain ⟨l, us, rfl, g, rs⟩ := lstOf_ok s r e
      obtain ⟨hl, hg⟩ := gsOf_ok s ts _ ds σ ρ ρ' Q er rs h q
      exact ⟨_, _, rfl, .of g, by rw [rs.length, hl], hg⟩
    · cases h
theorem gsOf_ok (s : Sr K mg φ S H) : ∀ (ts : List Tg) (vs : List V) (ds : List D) (σ : L2.St) (ρ ρ' : Lc) (Q : L2.St → Hp → Prop), Er K mg φ H σ ρ → Rps K mg φ H vs ds → Tg.puts ts ds ρ S = some ρ' → (∀ σ', Er K mg φ H σ' ρ' → SameBut (Tg.slotss ts) σ σ' → Q σ' H) → ds.length = ts.length ∧ gsOf K ts vs σ H Q
  | [], vs, ds, σ, ρ, ρ', Q, er, r, h, q => by
    cases ds with
    | nil =>
      cases r
      cases h
      exact ⟨rfl, rfl, q σ er .refl⟩
    | cons _ _ => cases h
  | t :: ts, vs, ds, σ, ρ, ρ', Q, er, r, h, q => by
    cases ds with
    | nil => cases h
    | cons d ds =>
      cases r with
      | cons r1 r2 =>
        simp only [Tg.puts] at h
        split at h
        · rename_i ρ1 h1
          have key : ∀ σ1, Er K mg φ H σ1 ρ1 → SameBut t.slots σ σ1 → ds.length = ts.length ∧ gsOf K ts _ σ1 H Q := fun σ1 er1 sb =>
            gsOf_ok s ts _ ds σ1 ρ1 ρ' Q er1 r2 h fun σ' er' sb' => q σ' er' ((sb.mono fun j hj => List.mem_append_left _ hj).trans (sb'.mono fun j hj => List.mem_append_right _ hj))
          refine ⟨?_, _, _, rfl, gOf_ok s t _ d σ ρ ρ1 _ er r1 h1 fun σ1 er1 sb => (key σ1 er1 sb).2⟩
          have : ∃ n, ds.length = n ∧ ts.length = n := by
            by_cases hz : ds.length = ts.length
            · exact ⟨_, rfl, hz.symm⟩
            · exfalso
              have := gOf_ok s t _ d σ ρ ρ1 (fun σ1 _ => ds.length = ts.length) er r1 h1 fun σ1 er1 sb => (key σ1 er1 sb).1
              exact hz (gOf_triv t _ σ H _ this)
          obtain ⟨n, h1, h2⟩ := this
          rw [List.length_cons, List.length_cons, h1, h2]
        · cases h
theorem gOf_triv : ∀ (t : Tg) (v : V) (σ : L2.St) (H : Hp) (p : Prop), gOf K t v σ H (fun _ _ => p) → p
  | .nm i, v, σ, H, p, h => h
  | .tp ts, v, σ, H, p, .inl ⟨_, _, _, _, _, h⟩ => gsOf_triv ts _ σ H p h
  | .tp ts, v, σ, H, p, .inr ⟨_, _, _, _, _, h⟩ => gsOf_triv ts _ σ H p h
  | .ls ts, v, σ, H, p, ⟨_, _, _, _, _, h⟩ => gsOf_triv ts _ σ H p h
theorem gsOf_triv : ∀ (ts : List Tg) (vs : List V) (σ : L2.St) (H : Hp) (p : Prop), gsOf K ts vs σ H (fun _ _ => p) → p
  | [], _, _, _, p, ⟨_, h⟩ => h
  | t :: ts, _, σ, H, p, ⟨v, r, _, h⟩ => by
    have h2 : gOf K t v σ H (fun _ _ => p) := gOf_imp t v σ H _ _ (fun σ' H' z => gsOf_triv ts _ σ' H' p z) h
    exact gOf_triv t v σ H p h2
theorem gOf_imp : ∀ (t : Tg) (v : V) (σ : L2.St) (H : Hp) (Q Q' : L2.St → Hp → Prop), (∀ σ H, Q σ H → Q' σ H) → gOf K t v σ H Q → gOf K t v σ H Q'
  | .nm i, v, σ, H, Q, Q', hq, h => hq _ _ h
  | .tp ts, v, σ, H, Q, Q', hq, .inl ⟨a, xs, h1, h2, h3, h⟩ => .inl ⟨a, xs, h1, h2, h3, gsOf_imp ts _ σ H Q Q' hq h⟩
  | .tp ts, v, σ, H, Q, Q', hq, .inr ⟨a, xs, h1, h2, h3, h⟩ => .inr ⟨a, xs, h1, h2, h3, gsOf_imp ts _ σ H Q Q' hq h⟩
  | .ls ts, v, σ, H, Q, Q', hq, ⟨a, xs, h1, h2, h3, h⟩ => ⟨a, xs, h1, h2, h3, gsOf_imp ts _ σ H Q Q' hq h⟩
theorem gsOf_imp : ∀ (ts : List Tg) (vs : List V) (σ : L2.St) (H : Hp) (Q Q' : L2.St → Hp → Prop), (∀ σ H, Q σ H → Q' σ H) → gsOf K ts vs σ H Q → gsOf K ts vs σ H Q'
  | [], _, σ, H, Q, Q', hq, ⟨h1, h⟩ => ⟨h1, hq _ _ h⟩
  | t :: ts, _, σ, H, Q, Q', hq, ⟨v, r, h1, h⟩ => ⟨v, r, h1, gOf_imp t v σ H _ _ (fun σ' H' z => gsOf_imp ts _ σ' H' Q Q' hq z) h⟩
end
end

/-! ### what a loop goes over -/
inductive Itd where
  | lst (n : Nat)
  | vlst (xs : List D)
  | tup (xs : List D)
  | rng (lo : Int) (n : Nat)
  | zipT (xs ys : List D)
  | zipV (xs ys : List D)
  | zipO (xs : List D) (n : Nat)
  | str (s : Str)
/-- the item at a turn: none: stuck; some none: it is over -/
def Itd.at' : Itd → Nat → Sto → Option (Option D)
  | .lst n, i, S => match S[n]? with | some (.lst xs) => some xs[i]? | _ => none
  | .vlst xs, i, _ => some xs[i]?
  | .tup xs, i, _ => some xs[i]?
  | .rng lo n, i, _ => some (if i < n then some (.int (lo + i)) else none)
  | .zipT xs ys, i, _ => match xs[i]?, ys[i]? with | some x, some y => some (some (.tup [x, y])) | _, _ => some none
  | .zipV xs ys, i, _ => match xs[i]?, ys[i]? with | some x, some y => some (some (.tup [x, y])) | _, _ => some none
  | .zipO xs n, i, S => match S[n]? with | some (.lst ys) => (match xs[i]?, ys[i]? with | some x, some y => some (some (.tup [x, y])) | _, _ => some none) | _ => none
  | .str s, i, _ => some (s.cps[i]?.map fun c => .str ⟨#[c]⟩)
def Itd.size : Itd → Sto → Nat
  | .lst n, S => match S[n]? with | some (.lst xs) => xs.length | _ => 0
  | .vlst xs, _ => xs.length
  | .tup xs, _ => xs.length
  | .rng _ n, _ => n
  | .zipT xs ys, _ => xs.length
  | .zipV xs ys, _ => xs.length
  | .zipO xs _, _ => xs.length
  | .str s, _ => s.cps.size
def ItR (K : PySem.W.Frag) (mg : MG) : Rl Itd It := fun φ0 H0 J it => ∀ (i : Nat) (φ : List Addr) (S : Sto) (H : Hp), Ext φ0 H0 φ H → Sr K mg φ S H → match it.at' i S with
  | none => True
  | some none => J.stop i H
  | some (some d) => J.go i H ∧ ∀ x H', J.yld i H x H' → Ext φ H φ H' ∧ Sr K mg φ S H' ∧ Rp K mg φ H' x d
abbrev IF := Lc → Sto → Res Itd
def DI (X : Cx) (W : WX) (tg iter : Expr) (f : IF) : Prop := PI X tg iter (lf (ItR X.K X.M) X.K X.M W f)
theorem pi_wk {X : Cx} {tg iter : Expr} {t t' : TI} (h : PI X tg iter t) (q : ∀ σ H Q, t' σ H Q → t σ H Q) : PI X tg iter t' := ⟨fun pins s σ H Q I z => h.run pins s σ H Q I (q σ H Q z)⟩
def iLst (a : EF) : IF := fun ρ S => (a ρ S).bind fun d S1 => match d with
  | .lst xs => .ok (.vlst xs) S1
  | .ob n => match S1[n]? with | some (.lst _) => .ok (.lst n) S1 | _ => .no
  | _ => .no
def jTup (a : EF) : IF := fun ρ S => (a ρ S).bind fun d S1 => match d with
  | .tup xs => .ok (.tup xs) S1
  | _ => .no
def iRng (a : AF) : IF := fun ρ S => (a ρ S).bind fun ds S1 => match ds with
  | [.int j] => if gd (-(2 ^ 62) ≤ j ∧ j < 2 ^ 62) then .ok (.rng 0 j.toNat) S1 else .no
  | [.int i, .int j] => if gd (-(2 ^ 62) ≤ i ∧ i < 2 ^ 62 ∧ -(2 ^ 62) ≤ j ∧ j < 2 ^ 62) then .ok (.rng i (j - i).toNat) S1 else .no
  | _ => .no
def iZip (a : AF) : IF := fun ρ S => (a ρ S).bind fun ds S1 => match ds with
  | [.tup xs, .tup ys] => .ok (.zipT xs ys) S1
  | [.lst xs, .lst ys] => .ok (.zipV xs ys) S1
  | [.lst xs, .ob n] => match S1[n]? with | some (.lst _) => .ok (.zipO xs n) S1 | _ => .no
  | _ => .no
section
variable {X : Cx} {W : WX} {e : Expr} {fa : EF} {ga : AF} {tg iter : Expr}
theorem di_lst (h : PI X tg iter (iList X.K (lE X.K X.M W fa))) : DI X W tg iter (iLst fa) :=
  pi_wk h fun σ H Q ⟨φ, ρ, S, er, sr, p⟩ => (lf.bind er sr p).imp fun x H1 ⟨φ1, S1, d, e1, sr1, r1, p1⟩ => by
    split at p1
    · rename_i ds
      cases r1 with
      | lst t rs =>
        refine ⟨_, rfl, ⟨_, .of t.2⟩, p1 φ1 H1 _ Ext.rfl' sr1 fun i φ S H ex sr => ?_⟩
        have t' := ex.im t
        have rs' := rs.mono ex
        unfold Itd.at'
        simp only
        cases e2 : ds[i]? with
        | none => exact ⟨_, .of t'.2, by rw [rs'.length]; exact List.getElem?_eq_none_iff.mp e2⟩
        | some d =>
          obtain ⟨v, hv, rv⟩ := rs'.get e2
          refine ⟨⟨_, v, .of t'.2, hv⟩, fun x H' hh => ?_⟩
          obtain ⟨rfl, hx⟩ := hh
          have := hx _ (.of t'.2)
          rw [hv] at this
          cases this
          exact ⟨Ext.rfl', sr, rv⟩
    · rename_i n
      split at p1
      · rename_i ys hy
        cases r1 with
        | ob hn =>
          obtain ⟨us, g, rs⟩ := sr1.lst hn hy
          refine ⟨_, rfl, ⟨us, .of g⟩, p1 φ1 H1 _ Ext.rfl' sr1 fun i φ S H ex sr => ?_⟩
          have hn' := ex.pre _ _ hn
          cases e : S[n]? with
          | none => simp only [Itd.at', e]
          | some o =>
            cases o with
            | lst ds =>
              obtain ⟨us, g, rs⟩ := sr.lst hn' e
              simp only [Itd.at', e]
              cases e2 : ds[i]? with
              | none => exact ⟨us, .of g, by rw [rs.length]; exact List.getElem?_eq_none_iff.mp e2⟩
              | some d =>
                obtain ⟨v, hv, rv⟩ := rs.get e2
                refine ⟨⟨us, v, .of g, hv⟩, fun x H' hh => ?_⟩
                obtain ⟨rfl, hx⟩ := hh
                have := hx us (.of g)
                rw [hv] at this
                cases this
                exact ⟨Ext.rfl', sr, rv⟩
            | _ => simp only [Itd.at', e]
      · exact p1.elim
    · exact p1.elim
theorem di_tup (h : PI X tg iter (L2.iTup X.K (lE X.K X.M W fa))) : DI X W tg iter (jTup fa) :=
  pi_wk h fun σ H Q ⟨φ, ρ, S, er, sr, p⟩ => (lf.bind er sr p).imp fun x H1 ⟨φ1, S1, d, e1, sr1, r1, p1⟩ => by
    split at p1
    · rename_i ds
      cases r1 with
      | tup t rs =>
        refine ⟨_, rfl, ⟨_, t.sq⟩, p1 φ1 H1 _ Ext.rfl' sr1 fun i φ S H ex sr => ?_⟩
        have t' := (t.mono ex).sq
        have rs' := rs.mono ex
        unfold Itd.at'
        simp only
        cases e2 : ds[i]? with
        | none => exact ⟨_, t', by rw [rs'.length]; exact List.getElem?_eq_none_iff.mp e2⟩
        | some d =>
          obtain ⟨v, hv, rv⟩ := rs'.get e2
          refine ⟨⟨_, v, t', hv⟩, fun x H' hh => ?_⟩
          obtain ⟨rfl, hx⟩ := hh
          have := hx _ t'
          rw [hv] at this
          cases this
          exact ⟨Ext.rfl', sr, rv⟩
    · exact p1.elim
/-- a list, a tuple or a text, as it comes -/
def iSeq (a : EF) : IF := fun ρ S => (a ρ S).bind fun d S1 => match d with
  | .tup xs => .ok (.tup xs) S1
  | .str s => .ok (.str s) S1
  | .lst xs => .ok (.vlst xs) S1
  | .ob n => match S1[n]? with | some (.lst _) => .ok (.lst n) S1 | _ => .no
  | _ => .no
def iSeqT (K : PySem.W.Frag) (tl : TE) : TI := fun σ H R => tl σ H fun x H1 => (∃ a, x = .ref a ∧ (∃ xs, SqL K H1 a xs) ∧ R (Itl K a) H1) ∨ (∃ a, x = .ref a ∧ (∃ xs, SqT K H1 a xs) ∧ R (Itt K a) H1) ∨ ∃ z, x = .str z ∧ R (Its z) H1
theorem pi_seq {X : Cx} {tg l : Expr} {tl : TE} (hl : PE X l tl) : PI X tg l (iSeqT X.K tl) := by
  refine ⟨fun pins s σ H R I h => ?_⟩
  refine thn (hl.run pins s σ H _ I h) fun v s1 ⟨x, H1, I1, r1, q1⟩ => ?_
  rcases q1 with ⟨a, e, ⟨xs, hq⟩, q⟩ | ⟨a, e, ⟨xs, hq⟩, q⟩ | ⟨x, ex, q⟩
  · subst e
    cases r1
    obtain ⟨its, rv, p, hz⟩ := I1.list hq
    refine wpAny_pyIter_list p.isList ?_
    refine ⟨s1.heap.objs.size, [s1.heap.objs.size], _, _, H1, rfl, I1.kept (t' := s1.toks) fun b o e => Heap.get?_push_of_some _ e, turn_list a _, ⟨_, Heap.get?_push_size _ rfl, rfl, rfl⟩, fun b hb => ?_, q⟩
    have e : b = s1.heap.objs.size := by simpa using hb
    subst e
    exact I1.fpOk (Nat.le_refl _) (I1.hok.fresh (Nat.le_refl _))
  · subst e
    cases r1
    obtain ⟨its, rv, p, hz⟩ := I1.tuple hq
    refine wpAny_pyIter_tuple (show s1.heap.IsTuple a its.toArray from p) ?_
    refine ⟨s1.heap.objs.size, [s1.heap.objs.size], _, _, H1, rfl, I1.kept (t' := s1.toks) fun b o e => Heap.get?_push_of_some _ e, turn_tuple a _, ⟨_, Heap.get?_push_size _ rfl, rfl, rfl⟩, fun b hb => ?_, q⟩
    have e : b = s1.heap.objs.size := by simpa using hb
    subst e
    exact I1.fpOk (Nat.le_refl _) (I1.hok.fresh (Nat.le_refl _))
  · subst ex
    obtain ⟨t, rfl⟩ := r1
    cases ha : x.cps.all (· < 128)
    · exact wpAny_pyIter_wide ha (pi_one (tk := s1.toks) I1 _ (turn_str _ x t "str_iterator" (.inr rfl)) ⟨_, Heap.get?_push_size _ rfl, rfl, rfl⟩ q)
    · exact wpAny_pyIter_ascii ha (pi_one (tk := s1.toks) I1 _ (turn_str _ x t "str_ascii_iterator" (.inl rfl)) ⟨_, Heap.get?_push_size _ rfl, rfl, rfl⟩ q)
/-- what each kind of thing yields -/
theorem ItR.tup {K : PySem.W.Frag} {mg : MG} {φ1 : List Addr} {H1 : Hp} {a : Addr} {xs : List V} {ds : List D} (t : ImT K φ1 H1 a xs) (rs : Rps K mg φ1 H1 xs ds) : ItR K mg φ1 H1 (Itt K a) (.tup ds) := fun i φ S H ex sr => by
  have t' := (t.mono ex).sq
  have rs' := rs.mono ex
  unfold Itd.at'
  simp only
  cases e2 : ds[i]? with
  | none => exact ⟨_, t', by rw [rs'.length]; exact List.getElem?_eq_none_iff.mp e2⟩
  | some d =>
    obtain ⟨v, hv, rv⟩ := rs'.get e2
    refine ⟨⟨_, v, t', hv⟩, fun x H' hh => ?_⟩
    obtain ⟨rfl, hx⟩ := hh
    have := hx _ t'
    rw [hv] at this
    cases this
    exact ⟨Ext.rfl', sr, rv⟩
theorem ItR.vlst {K : PySem.W.Frag} {mg : MG} {φ1 : List Addr} {H1 : Hp} {a : Addr} {xs : List V} {ds : List D} (t : Im φ1 H1 a (.lst xs)) (rs : Rps K mg φ1 H1 xs ds) : ItR K mg φ1 H1 (Itl K a) (.vlst ds) := fun i φ S H ex sr => by
  have t' := ex.im t
  have rs' := rs.mono ex
  unfold Itd.at'
  simp only
  cases e2 : ds[i]? with
  | none => exact ⟨_, .of t'.2, by rw [rs'.length]; exact List.getElem?_eq_none_iff.mp e2⟩
  | some d =>
    obtain ⟨v, hv, rv⟩ := rs'.get e2
    refine ⟨⟨_, v, .of t'.2, hv⟩, fun x H' hh => ?_⟩
    obtain ⟨rfl, hx⟩ := hh
    have := hx _ (.of t'.2)
    rw [hv] at this
    cases this
    exact ⟨Ext.rfl', sr, rv⟩
theorem ItR.olst {K : PySem.W.Frag} {mg : MG} {φ1 : List Addr} {H1 : Hp} {a : Addr} {n : Nat} (hn : φ1[n]? = some a) : ItR K mg φ1 H1 (Itl K a) (.lst n) := fun i φ S H ex sr => by
  have hn' := ex.pre _ _ hn
  cases e : S[n]? with
  | none => simp only [Itd.at', e]
  | some o =>
    cases o with
    | lst ds =>
      obtain ⟨us, g, rs⟩ := sr.lst hn' e
      simp only [Itd.at', e]
      cases e2 : ds[i]? with
      | none => exact ⟨us, .of g, by rw [rs.length]; exact List.getElem?_eq_none_iff.mp e2⟩
      | some d =>
        obtain ⟨v, hv, rv⟩ := rs.get e2
        refine ⟨⟨us, v, .of g, hv⟩, fun x H' hh => ?_⟩
        obtain ⟨rfl, hx⟩ := hh
        have := hx us (.of g)
        rw [hv] at this
        cases this
        exact ⟨Ext.rfl', sr, rv⟩
    | _ => simp only [Itd.at', e]
theorem ItR.str {K : PySem.W.Frag} {mg : MG} {φ1 : List Addr} {H1 : Hp} {z : Str} : ItR K mg φ1 H1 (Its z) (.str z) := fun i φ S H ex sr => by
  unfold Itd.at'
  simp only
  cases e : z.cps[i]? with
  | none =>
    simp only [Option.map_none]
    exact Array.getElem?_eq_none_iff.mp e
  | some c =>
    simp only [Option.map_some]
    refine ⟨(Array.getElem?_eq_some_iff.mp e).1, fun x H' hh => ?_⟩
    obtain ⟨rfl, c', h1, rfl⟩ := hh
    rw [e] at h1
    cases h1
    exact ⟨Ext.rfl', sr, .str _⟩
theorem di_seq (h : PE X iter (lE X.K X.M W fa)) : DI X W tg iter (iSeq fa) :=
  pi_wk (pi_seq h) fun σ H Q ⟨φ, ρ, S, er, sr, p⟩ => (lf.bind er sr p).imp fun x H1 ⟨φ1, S1, d, e1, sr1, r1, p1⟩ => by
    cases d with
    | tup ds =>
      cases r1 with
      | tup t rs => exact .inr (.inl ⟨_, rfl, ⟨_, t.sq⟩, p1 φ1 H1 _ Ext.rfl' sr1 (.tup t rs)⟩)
    | str z =>
      cases r1
      exact .inr (.inr ⟨z, rfl, p1 φ1 H1 _ Ext.rfl' sr1 .str⟩)
    | lst ds =>
      cases r1 with
      | lst t rs => exact .inl ⟨_, rfl, ⟨_, .of t.2⟩, p1 φ1 H1 _ Ext.rfl' sr1 (.vlst t rs)⟩
    | ob n =>
      simp only at p1
      split at p1
      · rename_i ys hy
        cases r1 with
        | ob hn =>
          obtain ⟨us, g, rs⟩ := sr1.lst hn hy
          exact .inl ⟨_, rfl, ⟨us, .of g⟩, p1 φ1 H1 _ Ext.rfl' sr1 (.olst hn)⟩
      · exact p1.elim
    | _ => exact p1.elim
theorem ItR.rng {K : PySem.W.Frag} {mg : MG} {lo : Int} {n : Nat} {φ1 : List Addr} {H1 : Hp} : ItR K mg φ1 H1 (Itr lo n) (.rng lo n) := fun i φ S H ex sr => by
  unfold Itd.at'
  simp only
  by_cases h : i < n
  · rw [if_pos h]
    exact ⟨h, fun x H' ⟨e1, e2⟩ => by subst e1; subst e2; exact ⟨Ext.rfl', sr, .int _⟩⟩
  · rw [if_neg h]
    exact Nat.le_of_not_lt h
theorem di_rng2 (h : PI X tg iter (iRng2 (lA X.K X.M W ga))) (hl : aLen ga 2) : DI X W tg iter (iRng ga) :=
  pi_wk h fun σ H Q ⟨φ, ρ, S, er, sr, p⟩ => by
    have p0 : post (ItR X.K X.M) X.K X.M W φ H σ Q ((ga ρ S).bind fun ds S1 => match ds with
        | [.int i, .int j] => if gd (-(2 ^ 62) ≤ i ∧ i < 2 ^ 62 ∧ -(2 ^ 62) ≤ j ∧ j < 2 ^ 62) then .ok (.rng i (j - i).toNat) S1 else .no
        | _ => .no) := by
      unfold iRng at p
      cases e : ga ρ S with
      | ok ds S1 =>
        rw [e] at p
        have l1 := hl _ _ _ _ e
        match ds, l1 with
        | [d, d2], _ => cases d <;> cases d2 <;> exact p
      | ex c S1 => rw [e] at p; exact p
      | no => rw [e] at p; exact p
    refine (lf.bind er sr p0).imp fun x H1 ⟨φ1, S1, ds, e1, sr1, r1, p1⟩ => ?_
    split at p1
    · rename_i i j
      split at p1
      · rename_i hj
        cases r1 with
        | cons a b =>
          cases b with
          | cons c d =>
            cases d
            cases a
            cases c
            exact ⟨i, j, rfl, of_gd hj, p1 φ1 H1 _ Ext.rfl' sr1 ItR.rng⟩
      · exact p1.elim
    · exact p1.elim
theorem di_zip (h : PI X tg iter (RZ.iZipA X.K (lA X.K X.M W ga))) : DI X W tg iter (iZip ga) :=
  pi_wk h fun σ H Q ⟨φ, ρ, S, er, sr, p⟩ => (lf.bind er sr p).imp fun x H1 ⟨φ1, S1, ds, e1, sr1, r1, p1⟩ => by
    split at p1
    · rename_i xs ys
      cases r1 with
      | cons a b =>
        cases b with
        | cons c d =>
          cases d
          cases a with
          | tup ta ra =>
            cases c with
            | tup tb rb =>
              refine ⟨_, _, _, _, rfl, .inr ⟨ta.sq, tb.sq, p1 φ1 H1 _ Ext.rfl' sr1 fun i φ S H ex sr => ?_⟩⟩
              have ta' := (ta.mono ex).sq
              have tb' := (tb.mono ex).sq
              have ra' := ra.mono ex
              have rb' := rb.mono ex
              unfold Itd.at'
              simp only
              cases ea : xs[i]? with
              | none => exact ⟨_, _, ta', tb', .inl (by rw [ra'.length]; exact List.getElem?_eq_none_iff.mp ea)⟩
              | some x =>
                cases eb : ys[i]? with
                | none => exact ⟨_, _, ta', tb', .inr (by rw [rb'.length]; exact List.getElem?_eq_none_iff.mp eb)⟩
                | some y =>
                  obtain ⟨v, hv, rv⟩ := ra'.get ea
                  obtain ⟨u, hu, ru⟩ := rb'.get eb
                  refine ⟨⟨_, _, v, u, ta', tb', hv, hu⟩, fun x H' hh => ?_⟩
                  obtain ⟨T, x1, y1, rfl, hT, rfl, f1, f2⟩ := hh
                  have g1 := f1 _ ta'
                  have g2 := f2 _ tb'
                  rw [hv] at g1; cases g1
                  rw [hu] at g2; cases g2
                  exact ⟨Ext.new hT, sr.new hT, .tup (.inl (sr.im hT)) (.cons (rv.mono (Ext.new hT)) (.cons (ru.mono (Ext.new hT)) .nil))⟩
    · rename_i xs ys
      cases r1 with
      | cons a b =>
        cases b with
        | cons c d =>
          cases d
          cases a with
          | lst ta ra =>
            cases c with
            | lst tb rb =>
              refine ⟨_, _, _, _, rfl, .inl ⟨.of ta.2, .of tb.2, p1 φ1 H1 _ Ext.rfl' sr1 fun i φ S H ex sr => ?_⟩⟩
              have ta' : SqL X.K H _ _ := .of (ex.im ta).2
              have tb' : SqL X.K H _ _ := .of (ex.im tb).2
              have ra' := ra.mono ex
              have rb' := rb.mono ex
              unfold Itd.at'
              simp only
              cases ea : xs[i]? with
              | none => exact ⟨_, _, ta', tb', .inl (by rw [ra'.length]; exact List.getElem?_eq_none_iff.mp ea)⟩
              | some x =>
                cases eb : ys[i]? with
                | none => exact ⟨_, _, ta', tb', .inr (by rw [rb'.length]; exact List.getElem?_eq_none_iff.mp eb)⟩
                | some y =>
                  obtain ⟨v, hv, rv⟩ := ra'.get ea
                  obtain ⟨u, hu, ru⟩ := rb'.get eb
                  refine ⟨⟨_, _, v, u, ta', tb', hv, hu⟩, fun x H' hh => ?_⟩
                  obtain ⟨T, x1, y1, rfl, hT, rfl, f1, f2⟩ := hh
                  have g1 := f1 _ ta'
                  have g2 := f2 _ tb'
                  rw [hv] at g1; cases g1
                  rw [hu] at g2; cases g2
                  exact ⟨Ext.new hT, sr.new hT, .tup (.inl (sr.im hT)) (.cons (rv.mono (Ext.new hT)) (.cons (ru.mono (Ext.new hT)) .nil))⟩
    · rename_i xs n
      split at p1
      · rename_i zs hz
        cases r1 with
        | cons a b =>
          cases b with
          | cons c d =>
            cases d
            cases a with
            | lst ta ra =>
              cases c with
              | ob hn =>
                obtain ⟨us, g0, _⟩ := sr1.lst hn hz
                refine ⟨_, _, _, _, rfl, .inl ⟨.of ta.2, .of g0, p1 φ1 H1 _ Ext.rfl' sr1 fun i φ S H ex sr => ?_⟩⟩
                have ta' : SqL X.K H _ _ := .of (ex.im ta).2
                have ra' := ra.mono ex
                have hn' := ex.pre _ _ hn
                cases e : S[n]? with
                | none => simp only [Itd.at', e]
                | some o =>
                  cases o with
                  | lst ys =>
                    obtain ⟨us, g, rb'⟩ := sr.lst hn' e
                    have tb' : SqL X.K H _ us := .of g
                    simp only [Itd.at', e]
                    cases ea : xs[i]? with
                    | none => exact ⟨_, _, ta', tb', .inl (by rw [ra'.length]; exact List.getElem?_eq_none_iff.mp ea)⟩
                    | some x =>
                      cases eb : ys[i]? with
                      | none => exact ⟨_, _, ta', tb', .inr (by rw [rb'.length]; exact List.getElem?_eq_none_iff.mp eb)⟩
                      | some y =>
                        obtain ⟨v, hv, rv⟩ := ra'.get ea
                        obtain ⟨u, hu, ru⟩ := rb'.get eb
                        refine ⟨⟨_, _, v, u, ta', tb', hv, hu⟩, fun x H' hh => ?_⟩
                        obtain ⟨T, x1, y1, rfl, hT, rfl, f1, f2⟩ := hh
                        have g1 := f1 _ ta'
                        have g2 := f2 _ tb'
                        rw [hv] at g1; cases g1
                        rw [hu] at g2; cases g2
                        exact ⟨Ext.new hT, sr.new hT, .tup (.inl (sr.im hT)) (.cons (rv.mono (Ext.new hT)) (.cons (ru.mono (Ext.new hT)) .nil))⟩
                  | _ => simp only [Itd.at', e]
      · exact p1.elim
    · exact p1.elim
theorem di_rng1 (h : PI X tg iter (iRng1 (lA X.K X.M W ga))) (hl : aLen ga 1) : DI X W tg iter (iRng ga) :=
  pi_wk h fun σ H Q ⟨φ, ρ, S, er, sr, p⟩ => by
    have p0 : post (ItR X.K X.M) X.K X.M W φ H σ Q ((ga ρ S).bind fun ds S1 => match ds with
        | [.int j] => if gd (-(2 ^ 62) ≤ j ∧ j < 2 ^ 62) then .ok (.rng 0 j.toNat) S1 else .no
        | _ => .no) := by
      unfold iRng at p
      cases e : ga ρ S with
      | ok ds S1 =>
        rw [e] at p
        have l1 := hl _ _ _ _ e
        match ds, l1 with
        | [d], _ => cases d <;> exact p
      | ex c S1 => rw [e] at p; exact p
      | no => rw [e] at p; exact p
    refine (lf.bind er sr p0).imp fun x H1 ⟨φ1, S1, ds, e1, sr1, r1, p1⟩ => ?_
    split at p1
    · rename_i j
      split at p1
      · rename_i hj
        cases r1 with
        | cons a b =>
          cases b
          cases a
          exact ⟨j, rfl, (of_gd hj).1, (of_gd hj).2, p1 φ1 H1 _ Ext.rfl' sr1 ItR.rng⟩
      · exact p1.elim
    · exact p1.elim
end
end DV
set_option Elab.async false
set_option linter.all false
set_option maxRecDepth 100000
namespace DV
open PySem PySem.Spec PyProof.Rows L2

/-! ### blocks -/
inductive SR where
  | nx (ρ : Lc) (S : Sto)
  | rt (d : D) (S : Sto)
  | bk (ρ : Lc) (S : Sto)
  | ct (ρ : Lc) (S : Sto)
  | ex (c : Str) (ρ : Lc) (S : Sto)
  | no
abbrev SF := Lc → Sto → SR
def Res.sb {α : Type} (r : Res α) (ρ : Lc) (k : α → Sto → SR) : SR :=
  match r with
  | .ok a S => k a S
  | .ex c S => .ex c ρ S
  | .no => .no
section
variable (K : PySem.W.Frag) (mg : MG) (W : WX)
def postS (φ : List Addr) (H : Hp) (N : Ends) : SR → Prop
  | .nx ρ S => ∀ φ' σ' H', Ext φ H φ' H' → Sr K mg φ' S H' → Er K mg φ' H' σ' ρ → N.nx σ' H'
  | .rt d S => ∀ φ' H' v, Ext φ H φ' H' → Sr K mg φ' S H' → Rp K mg φ' H' v d → N.rt v H'
  | .bk ρ S => ∀ φ' σ' H', Ext φ H φ' H' → Sr K mg φ' S H' → Er K mg φ' H' σ' ρ → N.bk σ' H'
  | .ct ρ S => ∀ φ' σ' H', Ext φ H φ' H' → Sr K mg φ' S H' → Er K mg φ' H' σ' ρ → N.ct σ' H'
  | .ex c ρ S => ClsAt mg c fun cls => ∀ φ' σ' H', Ext φ H φ' H' → Sr K mg φ' S H' → Er K mg φ' H' σ' ρ → W cls none σ' H'
  | .no => False
def lS (f : SF) : TS := fun N σ H => ∃ φ ρ S, Er K mg φ H σ ρ ∧ Sr K mg φ S H ∧ postS K mg W φ H N (f ρ S)
end
section
variable {K : PySem.W.Frag} {mg : MG} {W : WX} {φ φ1 : List Addr} {H H1 : Hp} {σ : L2.St} {N : Ends}
theorem postS.mono (e : Ext φ H φ1 H1) : ∀ {r : SR}, postS K mg W φ H N r → postS K mg W φ1 H1 N r
  | .nx _ _, h => fun φ' σ' H' e' => h φ' σ' H' (e.trans e')
  | .rt _ _, h => fun φ' v' H' e' => h φ' v' H' (e.trans e')
  | .bk _ _, h => fun φ' σ' H' e' => h φ' σ' H' (e.trans e')
  | .ct _ _, h => fun φ' σ' H' e' => h φ' σ' H' (e.trans e')
  | .ex _ _ _, ⟨C, e1, h⟩ => ⟨C, e1, fun φ' σ' H' e' => h φ' σ' H' (e.trans e')⟩
  | .no, h => h
theorem lf.sb {α β : Type} {R : Rl α β} {f : Lc → Sto → Res α} {k : α → Sto → SR} {ρ : Lc} {S : Sto} (er : Er K mg φ H σ ρ) (sr : Sr K mg φ S H) (p : postS K mg W φ H N ((f ρ S).sb ρ k)) :
    lf R K mg W f σ H fun x H1 => ∃ φ1 S1 a, Ext φ H φ1 H1 ∧ Sr K mg φ1 S1 H1 ∧ R φ1 H1 x a ∧ postS K mg W φ1 H1 N (k a S1) := by
  refine ⟨φ, ρ, S, er, sr, ?_⟩
  cases e : f ρ S with
  | ok a S1 =>
    rw [e] at p
    exact fun φ' H' x e' s r => ⟨φ', S1, a, e', s, r, postS.mono e' p⟩
  | ex c S1 => rw [e] at p; exact let ⟨C, e1, h⟩ := p; ⟨C, e1, fun φ' H' e' s => h φ' σ H' e' s (er.mono e')⟩
  | no => rw [e] at p; exact p
end
def DS (X : Cx) (W : WX) (st : Stmt) (f : SF) : Prop := PS X st (lS X.K X.M W f)
def DSs (X : Cx) (W : WX) (st : List Stmt) (f : SF) : Prop := PSs X st (lS X.K X.M W f)
def sNil : SF := fun ρ S => .nx ρ S
def sSeq (a b : SF) : SF := fun ρ S => match a ρ S with
  | .nx ρ' S' => b ρ' S'
  | r => r
def sAsg (t : Tg) (a : EF) : SF := fun ρ S => (a ρ S).sb ρ fun d S1 => match t.put d ρ S1 with
  | some ρ' => .nx ρ' S1
  | none => .no
def sPar (i j : Nat) (a : AF) : SF := fun ρ S => (a ρ S).sb ρ fun ds S1 => match ds with
  | [x, y] => .nx ((ρ.set i (some x)).set j (some y)) S1
  | _ => .no
def sPar3 (i j l : Nat) (a : AF) : SF := fun ρ S => (a ρ S).sb ρ fun ds S1 => match ds with
  | [x, y, z] => .nx (((ρ.set i (some x)).set j (some y)).set l (some z)) S1
  | _ => .no
def sSub (o i a : EF) : SF := fun ρ S => (a ρ S).sb ρ fun d S1 => (o ρ S1).sb ρ fun l S2 => (i ρ S2).sb ρ fun k S3 => match l, k with
  | .ob n, .int k => (match S3[n]? with
    | some (.lst xs) => (match ixN xs.length k with
      | some j => .nx ρ (S3.set n (.lst (xs.set j d)))
      | none => .no)
    | _ => .no)
  | _, _ => .no
def sExpr (a : EF) : SF := fun ρ S => (a ρ S).sb ρ fun _ S1 => .nx ρ S1
def sRet (a : EF) : SF := fun ρ S => (a ρ S).sb ρ fun d S1 => .rt d S1
def sRetN : SF := fun _ S => .rt .non S
def sIf (c : TF) (a b : SF) : SF := fun ρ S => (c ρ S).sb ρ fun k S1 => if k = true then a ρ S1 else b ρ S1
def sNo : SF := fun _ _ => .no
def sBrk : SF := fun ρ S => .bk ρ S
def sCnt : SF := fun ρ S => .ct ρ S
section
variable {X : Cx} {W : WX} {st : Stmt} {rest : List Stmt} {f g : SF} {e c : Expr} {fa : EF} {ga : AF} {gt : TF} {pos : Pos}
theorem dss_nil : DSs X W [] sNil := pss_wk pss_nil fun N σ H ⟨φ, ρ, S, er, sr, p⟩ => p φ σ H Ext.rfl' sr er
theorem dss_one (h : DS X W st f) : DSs X W [st] f := pss_one h
theorem dss_cons (h : DS X W st f) (h2 : DSs X W rest g) : DSs X W (st :: rest) (sSeq f g) := pss_wk (pss_cons h h2) fun N σ H ⟨φ, ρ, S, er, sr, p⟩ => by
  refine ⟨φ, ρ, S, er, sr, ?_⟩
  unfold sSeq at p
  cases e : f ρ S with
  | nx ρ' S' =>
    rw [e] at p
    exact fun φ' σ' H' e' s' er' => ⟨φ', ρ', S', er', s', postS.mono e' p⟩
  | rt d S' => rw [e] at p; exact p
  | bk ρ' S' => rw [e] at p; exact p
  | ct ρ' S' => rw [e] at p; exact p
  | ex c ρ' S' => rw [e] at p; exact p
  | no => rw [e] at p; exact p
theorem ds_no : DS X W st sNo := ps_wk ps_never fun N σ H ⟨φ, ρ, S, er, sr, p⟩ => p
theorem dss_no : DSs X W rest sNo := pss_wk pss_never fun N σ H ⟨φ, ρ, S, er, sr, p⟩ => p
theorem ds_pass : DS X W (.Pass pos) sNil := ps_wk ps_pass fun N σ H ⟨φ, ρ, S, er, sr, p⟩ => p φ σ H Ext.rfl' sr er
theorem ds_break : DS X W (.Break pos) sBrk := ps_wk ps_break fun N σ H ⟨φ, ρ, S, er, sr, p⟩ => p φ σ H Ext.rfl' sr er
theorem ds_cont : DS X W (.Continue pos) sCnt := ps_wk ps_continue fun N σ H ⟨φ, ρ, S, er, sr, p⟩ => p φ σ H Ext.rfl' sr er
theorem ds_asg {t : Tg} (h : PS X st (L2.tAsg (lE X.K X.M W fa) (gOf X.K t))) : DS X W st (sAsg t fa) := ps_wk h fun N σ H ⟨φ, ρ, S, er, sr, p⟩ =>
  (lf.sb er sr p).imp fun x H1 ⟨φ1, S1, d, e1, sr1, r1, p1⟩ => by
    split at p1
    · rename_i ρ' hp
      exact gOf_ok sr1 t x d σ ρ ρ' N.nx (er.mono e1) r1 hp fun σ' er' _ => p1 φ1 σ' H1 Ext.rfl' sr1 er'
    · exact p1.elim
theorem ds_par {i j : Nat} (h : PS X st (tPar i j (lA X.K X.M W ga))) : DS X W st (sPar i j ga) := ps_wk h fun N σ H ⟨φ, ρ, S, er, sr, p⟩ =>
  (lf.sb er sr p).imp fun xs H1 ⟨φ1, S1, ds, e1, sr1, r1, p1⟩ => by
    split at p1
    · cases r1 with
      | cons a b =>
        cases b with
        | cons c d =>
          cases d
          exact ⟨_, _, rfl, p1 φ1 _ H1 Ext.rfl' sr1 (((er.mono e1).set a i).set c j)⟩
    · exact p1.elim
theorem ds_par3 {i j l : Nat} (h : PS X st (tPar3 i j l (lA X.K X.M W ga))) : DS X W st (sPar3 i j l ga) := ps_wk h fun N σ H ⟨φ, ρ, S, er, sr, p⟩ =>
  (lf.sb er sr p).imp fun xs H1 ⟨φ1, S1, ds, e1, sr1, r1, p1⟩ => by
    split at p1
    · cases r1 with
      | cons a b =>
        cases b with
        | cons c d =>
          cases d with
          | cons f g =>
            cases g
            exact ⟨_, _, _, rfl, p1 φ1 _ H1 Ext.rfl' sr1 ((((er.mono e1).set a i).set c j).set f l)⟩
    · exact p1.elim
theorem ds_sub {fo fi : EF} (h : PS X st (L2.tAsg (lE X.K X.M W fa) (gSub (lE X.K X.M W fo) (lE X.K X.M W fi) rSetL))) : DS X W st (sSub fo fi fa) := ps_wk h fun N σ H ⟨φ, ρ, S, er, sr, p⟩ =>
  (lf.sb er sr p).imp fun x H1 ⟨φ1, S1, d, e1, sr1, r1, p1⟩ => (lf.sb (er.mono e1) sr1 p1).imp fun o H2 ⟨φ2, S2, l, e2, sr2, r2, p2⟩ =>
    (lf.sb ((er.mono e1).mono e2) sr2 p2).imp fun i H3 ⟨φ3, S3, k, e3, sr3, r3, p3⟩ => by
      split at p3
      · split at p3
        · rename_i xs hx
          split at p3
          · rename_i j hj
            cases r3
            cases r2 with
            | ob hn =>
              have hn3 := e3.pre _ _ hn
              obtain ⟨us, g, rs⟩ := sr3.lst hn3 hx
              refine ⟨_, us, _, j, rfl, rfl, g, by rw [rs.length]; exact hj, ?_⟩
              have ex : Ext φ3 H3 φ3 (upd H3 _ (.lst (us.set j x))) := Ext.put hn3
              exact p3 φ3 σ _ ex (sr3.put hn3 ⟨_, upd_same, (rs.set ((r1.mono e2).mono e3) j).mono ex⟩) ((((er.mono e1).mono e2).mono e3).mono ex)
          · exact p3.elim
        · exact p3.elim
      · exact p3.elim
theorem ds_expr (h : PS X st (tDrop (lE X.K X.M W fa))) : DS X W st (sExpr fa) := ps_wk h fun N σ H ⟨φ, ρ, S, er, sr, p⟩ =>
  (lf.sb er sr p).imp fun x H1 ⟨φ1, S1, d, e1, sr1, r1, p1⟩ => p1 φ1 σ H1 Ext.rfl' sr1 (er.mono e1)
theorem ds_ret (h : DE X W e fa) : DS X W (.Return (some e) pos) (sRet fa) := ps_wk (ps_ret h) fun N σ H ⟨φ, ρ, S, er, sr, p⟩ =>
  (lf.sb er sr p).imp fun x H1 ⟨φ1, S1, d, e1, sr1, r1, p1⟩ => p1 φ1 H1 x Ext.rfl' sr1 r1
theorem ds_retN : DS X W (.Return none pos) sRetN := ps_wk ps_retN fun N σ H ⟨φ, ρ, S, er, sr, p⟩ => p φ H .non Ext.rfl' sr .non
theorem ds_if {a b : List Stmt} (hc : DT X W c gt) (ha : DSs X W a f) (hb : DSs X W b g) : DS X W (.If c a b pos) (sIf gt f g) := ps_wk (ps_if hc ha hb) fun N σ H ⟨φ, ρ, S, er, sr, p⟩ =>
  (lf.sb er sr p).imp fun k H1 ⟨φ1, S1, k', e1, sr1, r1, p1⟩ => by
    cases r1
    split
    · rename_i h; rw [if_pos h] at p1; exact ⟨φ1, ρ, S1, er.mono e1, sr1, p1⟩
    · rename_i h; rw [if_neg h] at p1; exact ⟨φ1, ρ, S1, er.mono e1, sr1, p1⟩
end

/-! ### loops -/
def whGo (c : TF) (b : SF) : Nat → SF
  | n, ρ, S => (c ρ S).sb ρ fun k S1 => if k = true then
      (match n with
      | 0 => .no
      | n + 1 => match b ρ S1 with
        | .nx ρ' S' => whGo c b n ρ' S'
        | .ct ρ' S' => whGo c b n ρ' S'
        | .bk ρ' S' => .nx ρ' S'
        | r => r)
    else .nx ρ S1
def sWh (fuel : Lc → Sto → Nat) (c : TF) (b : SF) : SF := fun ρ S => whGo c b (fuel ρ S) ρ S
def forGo (it : Itd) (t : Tg) (b : SF) : Nat → Nat → SF
  | n, i, ρ, S => match it.at' i S with
    | none => .no
    | some none => .nx ρ S
    | some (some d) => match n with
      | 0 => .no
      | n + 1 => match t.put d ρ S with
        | none => .no
        | some ρ1 => match b ρ1 S with
          | .nx ρ' S' => forGo it t b n (i + 1) ρ' S'
          | .ct ρ' S' => forGo it t b n (i + 1) ρ' S'
          | .bk ρ' S' => .nx ρ' S'
          | r => r
def sFor (a : IF) (t : Tg) (b : SF) : SF := fun ρ S => (a ρ S).sb ρ fun it S1 => forGo it t b (it.size S1) 0 ρ S1
section
variable {X : Cx} {W : WX} {f : SF} {iter tg c : Expr} {body : List Stmt} {gi : IF} {gt : TF} {pos : Pos}
/-- the body's ends within a loop -/
theorem postS_in {φ : List Addr} {H : Hp} {N : Ends} {M : L2.St → Hp → Prop} {r : SR} {k : Lc → Sto → SR}
    (hM : ∀ φ' σ' H' ρ' S', Ext φ H φ' H' → Sr X.K X.M φ' S' H' → Er X.K X.M φ' H' σ' ρ' → postS X.K X.M W φ' H' N (k ρ' S') → M σ' H')
    (p : postS X.K X.M W φ H N (match r with | .nx ρ' S' => k ρ' S' | .ct ρ' S' => k ρ' S' | .bk ρ' S' => .nx ρ' S' | r => r)) : postS X.K X.M W φ H { N with nx := M, ct := M, bk := N.nx } r := by
  cases r with
  | nx ρ' S' => exact fun φ' σ' H' e s er => hM φ' σ' H' ρ' S' e s er (postS.mono e p)
  | ct ρ' S' => exact fun φ' σ' H' e s er => hM φ' σ' H' ρ' S' e s er (postS.mono e p)
  | bk ρ' S' => exact p
  | rt d S' => exact p
  | ex c ρ' S' => exact p
  | no => exact p
theorem ds_while {fuel : Lc → Sto → Nat} (h : PS X (.While c body [] pos) (tWhile (lT X.K X.M W gt) (lS X.K X.M W f))) : DS X W (.While c body [] pos) (sWh fuel gt f) := ps_wk h fun N σ H ⟨φ, ρ, S, er, sr, p⟩ => by
  refine ⟨fun n σ H => ∃ φ ρ S, Er X.K X.M φ H σ ρ ∧ Sr X.K X.M φ S H ∧ postS X.K X.M W φ H N (whGo gt f n ρ S), ⟨fuel ρ S, φ, ρ, S, er, sr, p⟩, ?_⟩
  rintro n σ H ⟨φ, ρ, S, er, sr, p⟩
  unfold whGo at p
  refine (lf.sb er sr p).imp fun k H1 ⟨φ1, S1, k', e1, sr1, r1, p1⟩ => ?_
  cases r1
  split
  · rename_i hk
    rw [if_pos hk] at p1
    cases n with
    | zero => exact p1.elim
    | succ n =>
      refine ⟨fun σ' H' => ∃ φ ρ S, Er X.K X.M φ H' σ' ρ ∧ Sr X.K X.M φ S H' ∧ postS X.K X.M W φ H' N (whGo gt f n ρ S), fun σ' H' w => ⟨n, Nat.lt_succ_self n, w⟩, φ1, ρ, S1, er.mono e1, sr1, ?_⟩
      exact postS_in (k := whGo gt f n) (fun φ' σ' H' ρ' S' _ s er q => ⟨φ', ρ', S', er, s, q⟩) p1
  · rename_i hk
    rw [if_neg hk] at p1
    exact p1 φ1 σ H1 Ext.rfl' sr1 (er.mono e1)
theorem ds_for {t : Tg} (h : PS X (.For tg iter body [] pos) (L2.tFor (lf (ItR X.K X.M) X.K X.M W gi) (gOf X.K t) (lS X.K X.M W f))) : DS X W (.For tg iter body [] pos) (sFor gi t f) := ps_wk h fun N σ H ⟨φ, ρ, S, er, sr, p⟩ =>
  (lf.sb er sr p).imp fun J H1 ⟨φ1, S1, it, e1, sr1, r1, p1⟩ => by
    refine ⟨fun i n σ H => ∃ φ ρ S, Ext φ1 H1 φ H ∧ Er X.K X.M φ H σ ρ ∧ Sr X.K X.M φ S H ∧ postS X.K X.M W φ H N (forGo it t f n i ρ S), ⟨it.size S1, φ1, ρ, S1, Ext.rfl', er.mono e1, sr1, p1⟩, ?_⟩
    rintro i n σ H ⟨φ, ρ, S, ex, er, sr, p⟩
    have J1 := r1 i φ S H ex sr
    unfold forGo at p
    cases ha : it.at' i S with
    | none => rw [ha] at p; exact p.elim
    | some o =>
      rw [ha] at p J1
      cases o with
      | none => exact .inl ⟨J1, p φ σ H Ext.rfl' sr er⟩
      | some d =>
        obtain ⟨go, yld⟩ := J1
        cases n with
        | zero => exact p.elim
        | succ n =>
          refine .inr ⟨go, fun σ' H' => ∃ φ ρ S, Ext φ1 H1 φ H' ∧ Er X.K X.M φ H' σ' ρ ∧ Sr X.K X.M φ S H' ∧ postS X.K X.M W φ H' N (forGo it t f n (i + 1) ρ S), fun σ' H' w => ⟨n, Nat.lt_succ_self n, w⟩, fun x H' hy => ?_⟩
          obtain ⟨ex2, sr2, rx⟩ := yld x H' hy
          simp only at p
          split at p
          · exact p.elim
          · rename_i ρ1 hp
            refine gOf_ok sr2 t x d σ ρ ρ1 _ (er.mono ex2) rx hp fun σ' er' _ => ⟨φ, ρ1, S, er', sr2, ?_⟩
            exact postS_in (k := forGo it t f n (i + 1)) (fun φ' σ' H'' ρ' S' e' s er q => ⟨φ', ρ', S', (ex.trans ex2).trans e', er, s, q⟩) (postS.mono ex2 p)
end

/-! ### comprehensions -/
theorem wipe_wipe {σ : L2.St} {vs : List Nat} : wipe (wipe σ vs) vs = wipe σ vs := by
  refine List.ext_getElem? fun i => ?_
  rw [wipe_at, wipe_length]
  by_cases hc : i ∈ vs ∧ i < σ.length
  · rw [if_pos hc, wipe_at, if_pos hc]
  · rw [if_neg hc]
def wipeD (ρ : Lc) : List Nat → Lc
  | [] => ρ
  | v :: vs => (wipeD ρ vs).set v none
theorem Er.wipe {K : PySem.W.Frag} {mg : MG} {φ : List Addr} {H : Hp} {σ : L2.St} {ρ : Lc} (er : Er K mg φ H σ ρ) : ∀ vs, Er K mg φ H (wipe σ vs) (wipeD ρ vs)
  | [] => er
  | v :: vs => by
    have ih := er.wipe vs
    refine ⟨by simp [L2.wipe, wipeD, ih.len], fun i d h => ?_⟩
    unfold wipeD at h
    unfold L2.wipe
    rw [List.getElem?_set] at h ⊢
    by_cases hv : v = i
    · rw [if_pos hv] at h
      split at h <;> cases h
    · rw [if_neg hv] at h ⊢
      exact ih.at' i d h
def lcGo (it : Itd) (t : Tg) (c : TF) (e : EF) (ρ : Lc) (k : Nat) : Nat → Nat → Sto → Res D
  | n, i, S => match it.at' i S with
    | none => .no
    | some none => .ok (.ob k) S
    | some (some d) => match n with
      | 0 => .no
      | n + 1 => match t.put d ρ S with
        | none => .no
        | some ρ1 => match c ρ1 S with
          | .ok false S2 => lcGo it t c e ρ k n (i + 1) S2
          | .ok true S2 => (match e ρ1 S2 with
            | .ok y S3 => (match S3[k]? with
              | some (.lst acc) => if szOk acc.length then lcGo it t c e ρ k n (i + 1) (S3.set k (.lst (acc ++ [y]))) else .no
              | _ => .no)
            | _ => .no)
          | _ => .no
/-- a comprehension whose list, and what it holds, is changed later -/
def eLcS (a : IF) (t : Tg) (c : TF) (e : EF) (own : List Nat) : EF := fun ρ S => (a ρ S).bind fun it S1 => lcGo it t c e (wipeD ρ own) S1.length (it.size S1) 0 (S1 ++ [.lst []])
/-- what was made behind n objects is dropped; the value is by value -/
def dropR (S0 : Sto) : Res D → Res D
  | .ok d S => match frz S0.length S 40 d, dropOs S0.length S 40 S0 S with
    | some e, some T => .ok e T
    | _, _ => .no
  | .ex c S => match dropOs S0.length S 40 S0 S with
    | some T => .ex c T
    | none => .no
  | .no => .no
theorem post_drop {K : PySem.W.Frag} {mg : MG} {W : WX} {φ : List Addr} {H : Hp} {σ : L2.St} {Q : VK} {S0 : Sto} (s0 : Sr K mg φ S0 H) : ∀ {r : Res D}, post (Rp K mg) K mg W φ H σ Q (dropR S0 r) → post (Rp K mg) K mg W φ H σ Q r
  | .ok d S, p => fun φ' H' x e' s r => by
    simp only [dropR] at p
    split at p
    · rename_i e T h1 h2
      obtain ⟨a1, a2, a3⟩ := call_end s0 e' s r h1 h2
      exact p φ H' x a1 a2 a3
    · exact p.elim
  | .ex c S, p => by
    simp only [dropR] at p
    split at p
    · rename_i T h2
      obtain ⟨C, e1, h⟩ := p
      refine ⟨C, e1, fun φ' H' e' s => ?_⟩
      obtain ⟨a1, a2, _⟩ := call_end (v := .non) (d := .non) (e := .non) (k := 1) s0 e' s .non (by simp [frz]) h2
      exact h φ H' a1 a2
    · exact p.elim
  | .no, p => p
def eLc (a : IF) (t : Tg) (c : TF) (e : EF) (own : List Nat) : EF := fun ρ S => (a ρ S).bind fun it S1 => dropR S1 (lcGo it t c e (wipeD ρ own) S1.length (it.size S1) 0 (S1 ++ [.lst []]))
def cYes : TF := fun _ S => .ok true S
section
variable {X : Cx} {W : WX} {w : Expr} {gi : IF} {gt : TF} {fe : EF} {t : Tg} {own : List Nat}
theorem tLcS_of (ho : ∀ j ∈ t.slots, j ∈ own) : ∀ σ H Q, lE X.K X.M W (eLcS gi t gt fe own) σ H Q → L2.tLc (lf (ItR X.K X.M) X.K X.M W gi) (gOf X.K t) (lT X.K X.M wF gt) (lE X.K X.M wF fe) own σ H Q := fun σ H Q ⟨φ, ρ, S, er, sr, p⟩ =>
  (lf.bind er sr p).imp fun J H1 ⟨φ1, S1, it, e1, sr1, r1, p1⟩ => fun Dn hD => by
    have eD := Ext.newSnoc (φ := φ1) (o := .lst []) hD
    have srD := sr1.snoc (o := .lst []) (u := .lst []) hD ⟨[], upd_same, .nil⟩
    refine ⟨fun i n H => ∃ φ S, Ext φ1 H1 φ H ∧ φ[S1.length]? = some Dn ∧ Sr X.K X.M φ S H ∧ post (Rp X.K X.M) X.K X.M W φ H σ Q (lcGo it t gt fe (wipeD ρ own) S1.length n i S),
      ⟨it.size S1, φ1 ++ [Dn], _, eD, at_snoc sr1 Dn, srD, post.mono eD p1⟩, ?_⟩
    rintro i n H ⟨φ, S, ex, hk, sr, p⟩
    have J1 := r1 i φ S H ex sr
    unfold lcGo at p
    cases ha : it.at' i S with
    | none => rw [ha] at p; exact p.elim
    | some o =>
      rw [ha] at p J1
      cases o with
      | none => exact .inl ⟨J1, p φ H _ Ext.rfl' sr (.ob hk)⟩
      | some d =>
        obtain ⟨go, yld⟩ := J1
        cases n with
        | zero => exact p.elim
        | succ n =>
          refine .inr ⟨go, fun H' => ∃ φ S, Ext φ1 H1 φ H' ∧ φ[S1.length]? = some Dn ∧ Sr X.K X.M φ S H' ∧ post (Rp X.K X.M) X.K X.M W φ H' σ Q (lcGo it t gt fe (wipeD ρ own) S1.length n (i + 1) S), fun H' w => ⟨n, Nat.lt_succ_self n, w⟩, fun x H' hy => ?_⟩
          obtain ⟨ex2, sr2, rx⟩ := yld x H' hy
          simp only at p
          split at p
          · exact p.elim
          · rename_i ρ1 hp
            have erw := ((er.mono e1).mono (ex.trans ex2)).wipe own
            refine gOf_ok sr2 t x d (wipe σ own) (wipeD ρ own) ρ1 _ erw rx hp fun σ2 er2 sb => ⟨(sb.mono ho).wipe.trans wipe_wipe, φ, ρ1, S, er2, sr2, ?_⟩
            split at p
            · rename_i S2 hc
              rw [hc]
              intro φ3 H3 b e3 sr3 hb
              cases hb
              rw [if_neg Bool.false_ne_true]
              exact ⟨φ3, S2, (ex.trans ex2).trans e3, e3.pre _ _ hk, sr3, post.mono (ex2.trans e3) p⟩
            · rename_i S2 hc
              rw [hc]
              intro φ3 H3 b e3 sr3 hb
              cases hb
              rw [if_pos rfl]
              refine ⟨φ3, ρ1, S2, er2.mono e3, sr3, ?_⟩
              split at p
              · rename_i y S3 hy
                rw [hy]
                intro φ4 H4 yv e4 sr4 ry
                split at p
                · rename_i acc hacc
                  split at p
                  · rename_i hz
                    have hk4 := e4.pre _ _ (e3.pre _ _ hk)
                    obtain ⟨us, g, rs⟩ := sr4.lst hk4 hacc
                    refine ⟨us, g, by rw [rs.length]; exact szOk.lt hz, ?_⟩
                    have ex5 : Ext φ4 H4 φ4 (upd H4 Dn (.lst (us ++ [yv]))) := Ext.put hk4
                    exact ⟨φ4, _, (((ex.trans ex2).trans e3).trans e4).trans ex5, hk4, sr4.put (u := .lst (acc ++ [y])) hk4 ⟨_, upd_same, (rs.append (.cons ry .nil)).mono ex5⟩, post.mono (((ex2.trans e3).trans e4).trans ex5) p⟩
                  · exact p.elim
                · exact p.elim
              · exact p.elim
            · exact p.elim
theorem de_lcS {own' : List (Str × Nat)} (h : PE X w (L2.tLc (lf (ItR X.K X.M) X.K X.M W gi) (gOf X.K t) (lT X.K X.M wF gt) (lE X.K X.M wF fe) (own'.map (·.2)))) (ho : ∀ j ∈ t.slots, j ∈ own'.map (·.2)) : DE X W w (eLcS gi t gt fe (own'.map (·.2))) :=
  pe_wk h (tLcS_of ho)
theorem tLc_of (ho : ∀ j ∈ t.slots, j ∈ own) : ∀ σ H Q, lE X.K X.M W (eLc gi t gt fe own) σ H Q → L2.tLc (lf (ItR X.K X.M) X.K X.M W gi) (gOf X.K t) (lT X.K X.M wF gt) (lE X.K X.M wF fe) own σ H Q := fun σ H Q ⟨φ, ρ, S, er, sr, p⟩ =>
  (lf.bind er sr p).imp fun J H1 ⟨φ1, S1, it, e1, sr1, r1, p1⟩ => fun Dn hD => by
    have p1 := post_drop sr1 p1
    have eD := Ext.newSnoc (φ := φ1) (o := .lst []) hD
    have srD := sr1.snoc (o := .lst []) (u := .lst []) hD ⟨[], upd_same, .nil⟩
    refine ⟨fun i n H => ∃ φ S, Ext φ1 H1 φ H ∧ φ[S1.length]? = some Dn ∧ Sr X.K X.M φ S H ∧ post (Rp X.K X.M) X.K X.M W φ H σ Q (lcGo it t gt fe (wipeD ρ own) S1.length n i S),
      ⟨it.size S1, φ1 ++ [Dn], _, eD, at_snoc sr1 Dn, srD, post.mono eD p1⟩, ?_⟩
    rintro i n H ⟨φ, S, ex, hk, sr, p⟩
    have J1 := r1 i φ S H ex sr
    unfold lcGo at p
    cases ha : it.at' i S with
    | none => rw [ha] at p; exact p.elim
    | some o =>
      rw [ha] at p J1
      cases o with
      | none => exact .inl ⟨J1, p φ H _ Ext.rfl' sr (.ob hk)⟩
      | some d =>
        obtain ⟨go, yld⟩ := J1
        cases n with
        | zero => exact p.elim
        | succ n =>
          refine .inr ⟨go, fun H' => ∃ φ S, Ext φ1 H1 φ H' ∧ φ[S1.length]? = some Dn ∧ Sr X.K X.M φ S H' ∧ post (Rp X.K X.M) X.K X.M W φ H' σ Q (lcGo it t gt fe (wipeD ρ own) S1.length n (i + 1) S), fun H' w => ⟨n, Nat.lt_succ_self n, w⟩, fun x H' hy => ?_⟩
          obtain ⟨ex2, sr2, rx⟩ := yld x H' hy
          simp only at p
          split at p
          · exact p.elim
          · rename_i ρ1 hp
            have erw := ((er.mono e1).mono (ex.trans ex2)).wipe own
            refine gOf_ok sr2 t x d (wipe σ own) (wipeD ρ own) ρ1 _ erw rx hp fun σ2 er2 sb => ⟨(sb.mono ho).wipe.trans wipe_wipe, φ, ρ1, S, er2, sr2, ?_⟩
            split at p
            · rename_i S2 hc
              rw [hc]
              intro φ3 H3 b e3 sr3 hb
              cases hb
              rw [if_neg Bool.false_ne_true]
              exact ⟨φ3, S2, (ex.trans ex2).trans e3, e3.pre _ _ hk, sr3, post.mono (ex2.trans e3) p⟩
            · rename_i S2 hc
              rw [hc]
              intro φ3 H3 b e3 sr3 hb
              cases hb
              rw [if_pos rfl]
              refine ⟨φ3, ρ1, S2, er2.mono e3, sr3, ?_⟩
              split at p
              · rename_i y S3 hy
                rw [hy]
                intro φ4 H4 yv e4 sr4 ry
                split at p
                · rename_i acc hacc
                  split at p
                  · rename_i hz
                    have hk4 := e4.pre _ _ (e3.pre _ _ hk)
                    obtain ⟨us, g, rs⟩ := sr4.lst hk4 hacc
                    refine ⟨us, g, by rw [rs.length]; exact szOk.lt hz, ?_⟩
                    have ex5 : Ext φ4 H4 φ4 (upd H4 Dn (.lst (us ++ [yv]))) := Ext.put hk4
                    exact ⟨φ4, _, (((ex.trans ex2).trans e3).trans e4).trans ex5, hk4, sr4.put (u := .lst (acc ++ [y])) hk4 ⟨_, upd_same, (rs.append (.cons ry .nil)).mono ex5⟩, post.mono (((ex2.trans e3).trans e4).trans ex5) p⟩
                  · exact p.elim
                · exact p.elim
              · exact p.elim
            · exact p.elim
theorem de_lc {own' : List (Str × Nat)} (h : PE X w (L2.tLc (lf (ItR X.K X.M) X.K X.M W gi) (gOf X.K t) (lT X.K X.M wF gt) (lE X.K X.M wF fe) (own'.map (·.2)))) (ho : ∀ j ∈ t.slots, j ∈ own'.map (·.2)) : DE X W w (eLc gi t gt fe (own'.map (·.2))) :=
  pe_wk h (tLc_of ho)
/-- a comprehension without a test: its test as the hand layer has it -/
theorem tYes_of : ∀ σ H Q, lT X.K X.M W cYes σ H Q → tYes σ H Q := fun σ H Q ⟨φ, ρ, S, er, sr, p⟩ => p φ H true Ext.rfl' sr rfl
end
/-! ### a def -/
/-- its end: what it made is dropped (runK: nothing is) -/
def endR : SR → Res D
  | .rt d S' => .ok d S'
  | .nx _ S' => .ok .non S'
  | .ex c _ S' => .ex c S'
  | _ => .no
def runK (N n : Nat) (b : SF) : FF := fun ds S => endR (b (ds.map some ++ List.replicate (N - n) none) S)
def runF (N n : Nat) (b : SF) : FF := fun ds S => dropR S (runK N n b ds S)
theorem start_er {K : PySem.W.Frag} {mg : MG} {φ : List Addr} {H : Hp} {N : List Str} {vs : List V} {ds : List D} (r : Rps K mg φ H vs ds) {n : Nat} (hn : vs.length = n) : Er K mg φ H (L2.start N vs) (ds.map some ++ List.replicate (N.length - n) none) := by
  subst hn
  refine ⟨by simp [L2.start, r.length], fun i d h => ?_⟩
  by_cases hi : i < ds.length
  · rw [List.getElem?_append_left (by simpa using hi), List.getElem?_map] at h
    cases e : ds[i]? with
    | none => rw [e] at h; cases h
    | some d' =>
      rw [e] at h
      cases h
      obtain ⟨v, hv, rv⟩ := r.get e
      refine ⟨v, ?_, rv⟩
      unfold L2.start
      rw [List.getElem?_append_left (by simpa [r.length] using hi), List.getElem?_map, hv]
      rfl
  · rw [List.getElem?_append_right (by simpa using hi), List.getElem?_replicate] at h
    split at h <;> cases h
section
variable {P : Program} {w : World} {K : PySem.W.Frag} {mg : Str → Option Value} {base : Heap} {x qual : Str} {st : Stmt} {f : Addr} {fd : FuncData} {N ps : List Str} {k : Nat} {b : SF}
theorem fn_okK (F : Fun K x qual st f fd) (S : FnScope N ps (defScope st))
    (hb : ∀ (cdv : Value) (A : Around) (outer : List Env) (s : Shared) (H : Hp) (E : XK), Room k (A.deeper (envOfC qual (defScope st) s.heap.objs.size f cdv)) →
      DSs (cxOf (L2.CX P w) P w K mg base N qual (defScope st) f cdv A outer s H E) (fun cls d _ H => E cls d H) (defBody st) b) :
    FnOk P w K mg base (L2.CX P w) (k + 1) f fd ps (spF K ⟨mg, P, w⟩ ps.length (runK N.length ps.length b)) := by
  refine F.okX S (fun vs H Q E h => h.1) (fun cdv A outer s H vs Q E hr h => ?_)
  obtain ⟨hl, φ, ds, S0, rs, sr, p⟩ := h
  refine ⟨_, hb cdv A outer s H E hr, φ, _, S0, start_er rs hl, sr, ?_⟩
  unfold runK at p
  cases e : b (ds.map some ++ List.replicate (N.length - ps.length) none) S0 with
  | rt d S' => rw [e] at p; exact fun φ' H' v e' s' r' => p φ' H' v e' s' r'
  | nx ρ S' => rw [e] at p; exact fun φ' σ' H' e' s' r' => p φ' H' .non e' s' .non
  | ex c ρ S' =>
    rw [e] at p
    obtain ⟨C, e1, h⟩ := p
    exact ⟨C, e1, fun φ' σ' H' e' s' _ => h φ' H' e' s'⟩
  | bk _ _ => rw [e] at p; exact p.elim
  | ct _ _ => rw [e] at p; exact p.elim
  | no => rw [e] at p; exact p.elim
theorem spF_drop {n : Nat} {F : FF} : ∀ vs H Q E, spF K ⟨mg, P, w⟩ n (fun ds S => dropR S (F ds S)) vs H Q E → spF K ⟨mg, P, w⟩ n F vs H Q E := fun vs H Q E ⟨hl, φ, ds, S0, rs, sr, p⟩ => ⟨hl, φ, ds, S0, rs, sr, post_drop sr p⟩
theorem fn_ok (F : Fun K x qual st f fd) (S : FnScope N ps (defScope st))
    (hb : ∀ (cdv : Value) (A : Around) (outer : List Env) (s : Shared) (H : Hp) (E : XK), Room k (A.deeper (envOfC qual (defScope st) s.heap.objs.size f cdv)) →
      DSs (cxOf (L2.CX P w) P w K mg base N qual (defScope st) f cdv A outer s H E) (fun cls d _ H => E cls d H) (defBody st) b) :
    FnOk P w K mg base (L2.CX P w) (k + 1) f fd ps (spF K ⟨mg, P, w⟩ ps.length (runF N.length ps.length b)) := (fn_okK F S hb).imp spF_drop
end
end DV
set_option Elab.async false
set_option linter.all false
set_option maxRecDepth 100000
namespace DV
open PySem PySem.Spec PyProof.Rows L2

section
variable {X : Cx} {W : WX} {e tg iter : Expr} {es : List Expr} {fa : EF} {ga : AF} {pos : Pos}
theorem de_callB {w : Expr} {r : List V → Hp → VK → Prop} {c : FF} (h : PE X w (tCB r (lA X.K X.M W ga))) (hc : Cal X.K X.M r c) : DE X W w (eB c ga) := pe_wk h (tCB_of hc)
/-- targets -/
theorem dg_nm {i : Nat} {t : Expr} (h : PG X t (gName i)) : PG X t (gOf X.K (.nm i)) := by unfold gOf; exact h
theorem pg_or {t : Expr} {g1 g2 : TG} (h1 : PG X t g1) (h2 : PG X t g2) : PG X t (fun v σ H Q => g1 v σ H Q ∨ g2 v σ H Q) := ⟨fun pins s σ H v u Q I r h => h.elim (h1.run pins s σ H v u Q I r) (h2.run pins s σ H v u Q I r)⟩
theorem dg_tp {ts : List Tg} {k : Nat} (hc : X.calm = true) (h : PGs X es (gsOf X.K ts)) (hn : (assignEach es X.env).length = ts.length := by rfl) (hst : (assignEach es X.env).findIdx? (·.1) = none := by rfl) : PG X (.Tuple es k pos) (gOf X.K (.tp ts)) := by
  unfold gOf
  exact pg_or (pg_tup hc h hn hst) (pg_lst hc h hn hst)
theorem dg_ls {ts : List Tg} {t : Expr} (h : PG X t (gLst X.K ts.length (gsOf X.K ts))) : PG X t (gOf X.K (.ls ts)) := by unfold gOf; exact h
theorem dgs_nil : PGs X [] (gsOf X.K []) := by unfold gsOf; exact pgs_nil
theorem dgs_cons {t : Tg} {ts : List Tg} (h : PGs X (e :: es) (gCons (gOf X.K t) (gsOf X.K ts))) : PGs X (e :: es) (gsOf X.K (t :: ts)) := by unfold gsOf; exact h
theorem dts_nil : PTs X [] (lT X.K X.M W cYes) := ⟨fun pins s σ H Q I z => pts_nil.run pins s σ H Q I (tYes_of σ H Q z)⟩
theorem dts_one {gt : TF} (h : DT X W e gt) : PTs X [e] (lT X.K X.M W gt) := pts_one h
theorem ds_setLc {st : Stmt} {i : Nat} {gi : IF} {gt : TF} {fe : EF} {t : Tg} {own' : List (Str × Nat)} (h : PS X st (L2.tAsg (L2.tLc (lf (ItR X.K X.M) X.K X.M W gi) (gOf X.K t) (lT X.K X.M wF gt) (lE X.K X.M wF fe) (own'.map (·.2))) (gName i))) (ho : ∀ j ∈ t.slots, j ∈ own'.map (·.2)) :
    DS X W st (sAsg (.nm i) (eLc gi t gt fe (own'.map (·.2)))) :=
  ds_asg (ps_wk h fun N σ H z => tLc_of ho σ H _ (z.imp fun x H1 q => by unfold gOf at q; exact q))
def eNeg (a : EF) : EF := fun ρ S => (a ρ S).bind fun d S1 => match d with | .int i => .ok (.int (-i)) S1 | _ => .no
theorem de_neg (h : DE X W e fa) : DE X W (.UnaryOp .USub e pos) (eNeg fa) := pe_wk (pe_un un_neg h) fun σ H Q ⟨φ, ρ, S, er, sr, p⟩ =>
  (lf.bind er sr p).imp fun x H1 ⟨φ1, S1, d, e1, sr1, r1, p1⟩ => by
    split at p1
    · cases r1
      exact ⟨_, rfl, p1 φ1 H1 _ Ext.rfl' sr1 (.int _)⟩
    · exact p1.elim
end
/-- the script's slice: a new list of its ints, by value -/
def eRo (a : EF) (lo hi : PF) : EF := fun ρ S => (a ρ S).bind fun d S1 => (lo ρ S1).bind fun l S2 => (hi ρ S2).bind fun u S3 => match d with
  | .ro ns => .ok (.lst ((cutD ns l u).map D.int)) S3
  | _ => .no
theorem Rps.ints {K : PySem.W.Frag} {mg : MG} {φ : List Addr} {H : Hp} : ∀ ns : List Int, Rps K mg φ H (ns.map V.int) (ns.map D.int)
  | [] => .nil
  | n :: ns => .cons (.int n) (Rps.ints ns)
theorem cutV_map (ns : List Int) (lo hi : Option Int) : cutV (ns.map V.int) lo hi = (cutD ns lo hi).map V.int := by
  unfold cutV cutD
  rw [List.length_map, List.map_take, List.map_drop]
theorem de_ro {X : Cx} {W : WX} {a : Expr} {lo hi : Option Expr} {fa : EF} {fl fh : PF} {p2 pos : Pos} (ha : DE X W a fa) (hl : DO X W lo fl) (hh : DO X W hi fh) : DE X W (.Subscript a (.Slice lo hi none p2) pos) (eRo fa fl fh) :=
  pe_wk (pe_slice sl_list ha hl hh) fun σ H Q ⟨φ, ρ, S, er, sr, p⟩ => (lf.bind er sr p).imp fun x H1 ⟨φ1, S1, d, e1, sr1, r1, p1⟩ =>
    (lf.bind (er.mono e1) sr1 p1).imp fun l H2 ⟨φ2, S2, l', e2, sr2, r2, p2⟩ => (lf.bind ((er.mono e1).mono e2) sr2 p2).imp fun u H3 ⟨φ3, S3, u', e3, sr3, r3, p3⟩ => by
      cases r2; cases r3
      have r1' := (r1.mono e2).mono e3
      cases d with
      | ro ns =>
        cases r1' with
        | ro h =>
          refine ⟨_, ns.map V.int, rfl, ?_, fun q hq => ?_⟩
          · rcases h with ⟨o, h⟩ | (h | ⟨o, h⟩) | h
            · exact .inl (.inr ⟨o, h.2⟩)
            · cases h
            · cases h
            · exact .inr h
          rw [cutV_map]
          exact p3 φ3 _ _ (Ext.new hq) (sr3.new hq) (.lst (sr3.im hq) (Rps.ints _))
      | _ => exact p3.elim

/-- a def of the text, as the top has left it -/
def FnAt (K : PySem.W.Frag) (mg : Str → Option Value) (x : Str) (st : Stmt) (ps : List Str) : Prop :=
  ∃ a fd, Fun K x x st a fd ∧ mg x = some (.ref a) ∧ Binds K fd ps []
/-- a def that keeps its promise: it does what F says -/
def Def (P : Program) (w : World) (K : PySem.W.Frag) (mg : Str → Option Value) (base : Heap) (x : Str) (ps : List Str) (k n : Nat) (F : FF) : Prop :=
  ∃ a fd, FnOk P w K mg base (L2.CX P w) k a fd ps (spF K ⟨mg, P, w⟩ n F) ∧ mg x = some (.ref a) ∧ PySem.W.keepIn K (.ref a) = true ∧ Binds K fd ps []
section
variable {P : Program} {w : World} {K : PySem.W.Frag} {mg : Str → Option Value} {base : Heap} {x : Str} {st : Stmt} {N ps : List Str} {k : Nat} {b : SF}
theorem def_ok (A : FnAt K mg x st ps) (S : FnScope N ps (defScope st))
    (hb : ∀ (f : Addr) (cdv : Value) (A : Around) (outer : List Env) (s : Shared) (H : Hp) (E : XK), Room k (A.deeper (envOfC x (defScope st) s.heap.objs.size f cdv)) →
      DSs (cxOf (L2.CX P w) P w K mg base N x (defScope st) f cdv A outer s H E) (fun cls d _ H => E cls d H) (defBody st) b) : Def P w K mg base x ps (k + 1) ps.length (runF N.length ps.length b) := by
  obtain ⟨a, fd, F, g, bi⟩ := A
  exact ⟨a, fd, fn_ok F S (hb a), g, F.kp, bi⟩
theorem def_okK (A : FnAt K mg x st ps) (S : FnScope N ps (defScope st))
    (hb : ∀ (f : Addr) (cdv : Value) (A : Around) (outer : List Env) (s : Shared) (H : Hp) (E : XK), Room k (A.deeper (envOfC x (defScope st) s.heap.objs.size f cdv)) →
      DSs (cxOf (L2.CX P w) P w K mg base N x (defScope st) f cdv A outer s H E) (fun cls d _ H => E cls d H) (defBody st) b) : Def P w K mg base x ps (k + 1) ps.length (runK N.length ps.length b) := by
  obtain ⟨a, fd, F, g, bi⟩ := A
  exact ⟨a, fd, fn_okK F S (hb a), g, F.kp, bi⟩
end
theorem de_callD {X : Cx} {W : WX} {k j n : Nat} {ps : List Str} {F : FF} {x : Str} {p pos : Pos} {e : Expr} {es : List Expr} {ga : AF}
    (d : Def X.prog X.w X.K X.mg X.base x ps k n F) (hr : Room j X.A) (tk : Takes X W) (hkj : k ≤ j) (hg : Gl X x) (ha : DA X W (e :: es) ga) (hl : aLen ga n) (hdb : (x == ("__debug__" : Str)) = false := by decide)
    (he : starEach (e :: es) X.env = (false, eval e X.env) :: starEach es X.env := by rfl) (hpl : (backTo pos (starEach es X.env)).any (·.1) = false := by rfl) :
    DE X W (.Call (.Name x p) (e :: es) [] pos) (eCall F ga) := by
  obtain ⟨a, fd, G, hm, hk, hb⟩ := d
  exact de_call G (hr.mono hkj) tk hg hm hk hb ha hl hdb he hpl
theorem fnat_mk {K : PySem.W.Frag} {mg : Str → Option Value} {h : Heap} {x : Str} {st : Stmt} {f : Addr} {ps : List Str} {oc : Value} {od an : Option Addr} {osl : Array (Option Value)} {kV doc pm cdv ct : Value} (X : K.In h) (G : h.Ns mainGlobals mg)
    (a : PySem.W.nsIn K mainGlobals x = some (some (.ref f))) (l : K.lookup f = some ⟨oc, od, .func (PySem.W.fnOf x x (defArgs st) (defBody st) (defScope st) .none kV doc pm an cdv ct), osl⟩)
    (c : PySem.W.codeIn K cdv x = true) (k : PySem.W.keepIn K (.ref f) = true)
    (hb : ∀ (kV doc pm : Value) (an : Option Addr) (cdv ct : Value) (us : List Value), us.length = ps.length → bindArgs (PySem.W.fnOf x x (defArgs st) (defBody st) (defScope st) .none kV doc pm an cdv ct) ⟨us, []⟩ = pure (ps.zip us)) : FnAt K mg x st ps :=
  ⟨f, _, fun_mk l c k, PySem.W.mg_of X G a, (fun_mk l c k).binds hb⟩
/-- the law's promise: True, of every script -/
def spLaw (K : PySem.W.Frag) : Sp := fun vs H Q _ => ∃ (a : Addr) (ns : List Int), vs = [.ref a] ∧ SqL K H a (ns.map V.int) ∧ Only H ∧ ns.length ≤ 63 ∧ ∀ H', Q (.bl true) H'
theorem law_of {P : Program} {w : World} {K : PySem.W.Frag} {mg : Str → Option Value} {base : Heap} {f : Addr} {fd : FuncData} {k : Nat} {ps : List Str} {F : FF} (h : FnOk P w K mg base (L2.CX P w) k f fd ps (spF K ⟨mg, P, w⟩ 1 F))
    (hF : ∀ ns : List Int, ns.length ≤ 63 → ∃ S, F [.ro ns] [] = .ok (.bl true) S) : FnOk P w K mg base (L2.CX P w) k f fd ps (spLaw K) := h.imp fun vs H Q E ⟨a, ns, e, hs, ho, hl, q⟩ => by
  subst e
  obtain ⟨S, hS⟩ := hF ns hl
  refine ⟨rfl, [], [.ro ns], [], .cons (.ro ?_) .nil, ⟨rfl, List.nodup_nil, fun n o h => by simp at h⟩, ?_⟩
  · rcases hs with (h | ⟨o, h⟩) | h
    · rcases ho a with z | ⟨o, xs, z⟩
      · rw [h] at z; cases z
      · rw [h] at z; cases z
    · exact .inl ⟨o, by simp, h⟩
    · exact .inr (.inr h)
  · rw [hS]
    intro φ' H' v _ _ r
    cases r
    exact q H'
end DV
namespace DV
open PySem PySem.Spec PyProof.Rows L2
theorem def_no {P : Program} {w : World} {K : PySem.W.Frag} {mg : Str → Option Value} {base : Heap} {x : Str} {st : Stmt} {ps : List Str} {k n : Nat} (A : FnAt K mg x st ps) (hn : ps.length = n) : Def P w K mg base x ps k n (fun _ _ => .no) := by
  obtain ⟨a, fd, F, g, bi⟩ := A
  refine ⟨a, fd, ⟨fun vs H Q E h => h.1.trans hn.symm, fun A outer s H args us vs Q E hr he hb hv h => ?_⟩, g, F.kp, bi⟩
  obtain ⟨_, φ, ds, S, _, _, p⟩ := h
  exact p.elim
end DV
namespace DV
open PySem PySem.Spec PyProof.Rows L2
/-! ### the module's constants -/
def GInt (mg : Str → Option Value) (x : Str) (i : Int) : Prop := ∃ t, mg x = some (.int i t)
def GTup (K : PySem.W.Frag) (mg : Str → Option Value) (x : Str) (ds : List D) : Prop := ∃ a, mg x = some (.ref a) ∧ ∀ (M : MG) φ H, Rp K M φ H (.ref a) (.tup ds)
theorem de_gint {X : Cx} {W : WX} {x : Str} {i : Int} {pos : Pos} (h : GInt X.mg x i) (hg : Gl X x) (hd : (x == ("__debug__" : Str)) = false := by decide) : DE X W (.Name x pos) (eC (.int i)) := by
  obtain ⟨t, h⟩ := h
  exact de_con (pe_glob (v := .int i) hg h ⟨t, rfl⟩ hd) fun _ _ => .int i
theorem de_gtup {X : Cx} {W : WX} {x : Str} {ds : List D} {pos : Pos} (h : GTup X.K X.mg x ds) (hg : Gl X x) (hd : (x == ("__debug__" : Str)) = false := by decide) : DE X W (.Name x pos) (eC (.tup ds)) := by
  obtain ⟨a, h, r⟩ := h
  exact de_con (pe_glob (v := .ref a) hg h rfl hd) (r _)
theorem gtup_mk {K : PySem.W.Frag} {mg : Str → Option Value} {x : Str} {a : Addr} {od : Option Addr} {its : Array Value} {n : Nat} {sl : Array (Option Value)} {vs : List V} {ds : List D} (m : mg x = some (.ref a))
    (l : K.lookup a = some ⟨.type "tuple", od, .seq its n, sl⟩) (hz : its.size ≤ sizeLine) (hv : Vals vs its.toList) (hr : ∀ (M : MG) φ H, Rps K M φ H vs ds) : GTup K mg x ds :=
  ⟨a, m, fun M φ H => .tup (.inr (.inr ⟨_, its, n, l, rfl, rfl, hz, hv⟩)) (hr M φ H)⟩
end DV
namespace DV
open PySem PySem.Spec PyProof.Rows L2
/-- x += e, ints -/
def sAug (i : Nat) (a : EF) : SF := fun ρ S => match ρ[i]? with
  | some (some (.int x)) => (a ρ S).sb ρ fun d S1 => (match d with | .int y => .nx (ρ.set i (some (.int (x + y)))) S1 | _ => .no)
  | _ => .no
theorem ds_aug {X : Cx} {W : WX} {st : Stmt} {i : Nat} {fa : EF} (h : PS X st (L2.tAug i (lE X.K X.M W fa) (ipI fun a b => a + b))) : DS X W st (sAug i fa) := ps_wk h fun N σ H ⟨φ, ρ, S, er, sr, p⟩ => by
  unfold sAug at p
  split at p
  · rename_i x hx
    obtain ⟨v, hv, rv⟩ := er.at' i _ hx
    refine ⟨v, hv, (lf.sb er sr p).imp fun y H1 ⟨φ1, S1, d, e1, sr1, r1, p1⟩ => ?_⟩
    split at p1
    · cases rv; cases r1
      exact ⟨_, _, rfl, rfl, p1 φ1 _ H1 Ext.rfl' sr1 ((er.mono e1).set (.int _) i)⟩
    · exact p1.elim
  · exact p.elim
end DV
set_option Elab.async false
set_option linter.all false
set_option maxRecDepth 100000
namespace DV
open PySem PySem.Spec PyProof.Rows L2
section
variable {prog : Program} {w : World} {A : Around} {E : Value → Shared → Prop} {s : Shared}
theorem adjust_rev (n : Nat) : Builtin.Slice.sliceAdjust none none (-1) (n : Int) = ((n : Int) - 1, -1) := by
  unfold Builtin.Slice.sliceAdjust
  simp
theorem places_rev (n : Nat) : Builtin.Slice.slicePlaces ((n : Int) - 1) (-1) (-1) = n := by
  unfold Builtin.Slice.slicePlaces
  have h1 : ¬ (-1 : Int) > 0 := by decide
  simp only [h1, if_false]
  by_cases h : (n : Int) - 1 > -1
  · rw [if_pos h, show (-(-1 : Int)) = 1 by decide, Int.ediv_one]
    omega
  · rw [if_neg h]
    omega
theorem sliceApplied_rev {sl : Addr} {vs : Value} {n : Nat} {Q : Int × Int × Nat → Shared → Prop} (hs : s.heap.IsSliceOf sl .none .none vs) (ps : IsPart vs (some (-1)))
    (h : Q ((n : Int) - 1, -1, n) s) : wpAny (model prog w) A (Builtin.Slice.sliceApplied (.ref sl) (pure (n : Int))) Q E s := by
  obtain ⟨os, hos, hcs, hds⟩ := id hs
  unfold Builtin.Slice.sliceApplied Builtin.Slice.sliceFields
  refine wpAny_bind (wpAny_bind (wpAny_field hos hds (x := .none) rfl (wpAny_bind (wpAny_field hos hds (x := .none) rfl (wpAny_bind (wpAny_field hos hds (x := vs) rfl (wpAny_pure ?_)))))))
  refine wpAny_bind (HT.slicePart_ ps ?_)
  show wpAny _ _ (if ((-1 : Int) == 0) = true then _ else _) _ _ s
  rw [if_neg (by decide)]
  refine wpAny_bind (HT.slicePart_ .none (wpAny_bind (HT.slicePart_ .none (wpAny_bind (wpAny_pure ?_)))))
  show wpAny _ _ (match Builtin.Slice.sliceAdjust none none (-1) (n : Int) with | (lo, hi) => pure (lo, (-1 : Int), Builtin.Slice.slicePlaces lo hi (-1))) _ _ s
  rw [adjust_rev]
  show wpAny _ _ (pure ((n : Int) - 1, (-1 : Int), Builtin.Slice.slicePlaces ((n : Int) - 1) (-1) (-1))) _ _ s
  rw [places_rev]
  exact wpAny_pure h
theorem fm_congr {α β : Type} {f g : α → Option β} : ∀ {l : List α}, (∀ x ∈ l, f x = g x) → l.filterMap f = l.filterMap g
  | [], _ => rfl
  | x :: l, h => by
    have ih := fm_congr (l := l) fun y hy => h y (by simp [hy])
    rw [List.filterMap_cons, List.filterMap_cons, h x (by simp), ih]
theorem pick_rev (xs : Array Value) : ((List.range xs.size).filterMap fun (k : Nat) => xs[(((xs.size : Nat) : Int) - 1 + (k : Int) * (-1)).toNat]?).toArray = xs.toList.reverse.toArray := by
  have h := PySem.W.krv_pick xs
  rw [← h]
  unfold PySem.slicePick
  rw [PySem.W.krv_bounds]
  show _ = ((sliceRange ((xs.size : Int) - 1) (-1) (-1)).filterMap (xs[·]?)).toArray
  rw [PySem.W.krv_sliceRange, List.filterMap_map]
  congr 1
  refine fm_congr fun k hk => ?_
  have := List.mem_range.mp hk
  show xs[_]? = xs[_]?
  congr 1
  show (((xs.size : Nat) : Int) - 1 + (k : Int) * (-1)).toNat = xs.size - 1 - k
  omega
theorem getItem_tuple_rev {t sl : Addr} {items : Array Value} {vs : Value} {Q : Value → Shared → Prop} (ht : IsTup s.heap t items) (hs : s.heap.IsSliceOf sl .none .none vs) (ps : IsPart vs (some (-1)))
    (h : Q (.ref s.heap.objs.size) { s with heap := s.heap.push { cls := .type "tuple", data := .seq items.toList.reverse.toArray } })
    (hsz : items.size ≤ sizeLine) : wpAny (model prog w) A (getItem (.ref t) (.ref sl)) Q E s := by
  have hdrop : sizeOk (.seq items.toList.reverse.toArray) := by
    show items.toList.reverse.toArray.size ≤ sizeLine
    rw [List.size_toArray, List.length_reverse, Array.length_toList]
    exact hsz
  obtain ⟨os, hos, hcs, hds⟩ := id hs
  have hTs : s.TypeIs (.ref sl) "slice" := ⟨os, hos, hcs⟩
  unfold getItem
  try with_reducible refine wpAny_holding ?_
  first | refine wpAny_bind (wpAny_pure ?_) | skip
  refine wpAny_bind (wpAny_sequenceKey ht.typeIs (by decide) ?_)
  refine wpAny_bind (wpAny_callSpecial?_slot (name := Str.ofString "__getitem__") ht.typeIs PyProof.Rows.slot_tuple_getitem
    (wpAny_call_entry PyProof.Rows.slot_tuple_getitem ht.typeIs entry_tuple_getitem ?_ (args_tuple_getitem _ _)))
  show wpAny _ _ (Builtin.Tuple.tupleItemsOf (.ref t) >>= _) _ _ s
  refine wpAny_bind (tupleItemsOf_ ht ?_)
  refine wpAny_bind (wpAny_typeOf hTs ?_)
  rw [if_pos (by decide)]
  refine wpAny_bind (sliceApplied_rev (n := items.size) hs ps ?_)
  have hno : ¬ ((((items.size : Nat) : Int) - 1 == 0 && (-1 : Int) == 1 && items.size == items.size) = true) := by
    have : ((-1 : Int) == 1) = false := by decide
    rw [this]; simp
  show wpAny _ _ (if (((items.size : Nat) : Int) - 1 == 0 && (-1 : Int) == 1 && items.size == items.size) = true then _ else _) _ _ s
  rw [if_neg hno, pick_rev items]
  first
    | exact wpAny_bind (m := Builtin.Tuple.tupleExact _) (wpAny_newObj_type (wpAny_pure ⟨_, rfl, wpAny_pure h⟩) hdrop)
    | exact wpAny_bind (m := Builtin.Tuple.tupleExact _) (wpAny_newObj_type (wpAny_bind (wpAny_pure (wpAny_pure ⟨_, rfl, wpAny_pure h⟩))) hdrop)
    | exact wpAny_bind (wpAny_bind (m := Builtin.Tuple.tupleExact _) (wpAny_newObj_type (wpAny_pure (wpAny_pure ⟨_, rfl, wpAny_pure h⟩)) hdrop))
    | exact wpAny_bind (wpAny_bind (m := Builtin.Tuple.tupleExact _) (wpAny_newObj_type (wpAny_pure ⟨_, rfl, wpAny_pure h⟩) hdrop))
end
/-- x[::-1] of a list or a tuple -/
theorem pe_revA {X : Cx} {e : Expr} {te : TE} {p1 p2 p3 pos : Pos} {k : Nat} (he : PE X e te) :
    PE X (.Subscript e (.Slice none none (some (.UnaryOp .USub (.Constant (.int 1) k p1) p2)) p3) pos) (fun σ H Q => te σ H fun x H1 => (∃ a xs, x = .ref a ∧ SqL X.K H1 a xs ∧ ∀ p, H1 p = none → Q (.ref p) (upd H1 p (.lst xs.reverse))) ∨ (∃ a xs, x = .ref a ∧ SqT X.K H1 a xs ∧ ∀ p, H1 p = none → Q (.ref p) (upd H1 p (.tup xs.reverse)))) := by
  refine ⟨fun pins s σ H Q I h => ?_⟩
  refine Subscript_ (thn (he.run pins s σ H _ I h) fun v s1 ⟨x, H1, I1, r1, hq⟩ => ?_)
  have core : ∀ a, x = .ref a → (∀ (s2 : Shared) (t : Tok), Inv X pins σ H1 { s2 with heap := s2.heap.push { cls := .type "slice", data := .fields #[.none, .none, .int (-1) t] } } → Inv X pins σ H1 s2 →
      wpAny (model X.prog X.w) X.A (subscriptTail e (.Slice none none (some (.UnaryOp .USub (.Constant (.int 1) k p1) p2)) p3) (.ref a) (.ref s2.heap.objs.size)) (EP X pins σ Q) X.xe { s2 with heap := s2.heap.push { cls := .type "slice", data := .fields #[.none, .none, .int (-1) t] } }) →
      wpAny (model X.prog X.w) X.A (eval (.Slice none none (some (.UnaryOp .USub (.Constant (.int 1) k p1) p2)) p3) X.env) (fun i => wpAny (model X.prog X.w) X.A (subscriptTail e (.Slice none none (some (.UnaryOp .USub (.Constant (.int 1) k p1) p2)) p3) v i) (EP X pins σ Q) X.xe) X.xe s1 := by
    intro a ex go
    subst ex
    cases r1
    refine wpAny_Slice ?_
    rw [evalPart_none]
    refine wpAny_pure (wpAny_pure ?_)
    show wpAny _ _ (eval (.UnaryOp .USub (.Constant (.int 1) k p1) p2) X.env) _ _ s1
    refine thn ((pe_un un_neg (pe_int (X := X) (i := 1) (j := k) (pos := p1)) (pos := p2)).run pins s1 σ H1 (fun v H2 => v = .int (-1) ∧ H2 = H1) I1 ⟨1, rfl, rfl, rfl⟩) fun u s2 ⟨y, H2, I2, r2, e1, e2⟩ => ?_
    subst e1; subst e2
    obtain ⟨t, rfl⟩ := r2
    exact go s2 t (I2.kept (t' := s2.toks) fun b ob q => Heap.get?_push_of_some _ q) I2
  rcases hq with ⟨a, xs, ex, hs, q1⟩ | ⟨a, xs, ex, hs, q1⟩
  · refine core a ex fun s2 t I3 I2 => ?_
    obtain ⟨its', r', ht', hz'⟩ := I3.list hs
    refine tail_any (ops := _) ht'.isList.typeIs slot_list_getitem.lookup ?_ (by with_unfolding_all rfl)
    refine wpAny_getItem_list_slice (hi := none) (lo := none) (st := some (-1)) ht'.isList (Heap.IsSliceOf.new ..) .none .none (.int _ _) (by decide) ?_ (by rw [List.size_toArray, ← r'.length]; exact hz')
    rw [PySem.W.krv_pick]
    refine ⟨.ref _, _, I3.laid (t' := s2.toks) (o := .lst xs.reverse) (fun b ob q => Heap.get?_push_of_some _ q) (Nat.le_refl _) ?_, rfl, q1 _ (I3.hok.fresh (Nat.le_refl _))⟩
    exact ⟨by rw [List.length_reverse]; exact hz', its'.reverse, 0, r'.reverse, Heap.get?_push_size _ rfl⟩
  · refine core a ex fun s2 t I3 I2 => ?_
    obtain ⟨its', r', ht', hz'⟩ := I3.tuple hs
    refine tail_any (ops := _) ht'.typeIs PyProof.Rows.slot_tuple_getitem.lookup ?_ (by with_unfolding_all rfl)
    refine getItem_tuple_rev ht' (Heap.IsSliceOf.new ..) (.int _ _) ?_ (by rw [List.size_toArray, ← r'.length]; exact hz')
    refine ⟨.ref _, _, I3.laid (t' := s2.toks) (o := .tup xs.reverse) (fun b ob q => Heap.get?_push_of_some _ q) (Nat.le_refl _) ?_, rfl, q1 _ (I3.hok.fresh (Nat.le_refl _))⟩
    exact ⟨by rw [List.length_reverse]; exact hz', its'.reverse, r'.reverse, IsTup.new _ _⟩
end DV
set_option Elab.async false
set_option linter.all false
set_option maxRecDepth 100000
namespace DV
open PySem PySem.Spec PyProof.Rows L2
/-! ### x[::-1] of a list or a tuple: a new one by value -/
def eRev (a : EF) : EF := fun ρ S => (a ρ S).bind fun d S1 => match d with
  | .tup xs => .ok (.tup xs.reverse) S1
  | d => match lstOf d S1 with
    | some xs => .ok (.lst xs.reverse) S1
    | none => .no
theorem de_rev {X : Cx} {W : WX} {e : Expr} {fa : EF} {p1 p2 p3 pos : Pos} {k : Nat} (ha : DE X W e fa) : DE X W (.Subscript e (.Slice none none (some (.UnaryOp .USub (.Constant (.int 1) k p1) p2)) p3) pos) (eRev fa) :=
  pe_wk (pe_revA ha) fun σ H Q ⟨φ, ρ, S, er, sr, p⟩ => (lf.bind er sr p).imp fun x H1 ⟨φ1, S1, d, e1, sr1, r1, p1⟩ => by
    split at p1
    · cases r1 with
      | tup t rs => exact .inr ⟨_, _, rfl, t.sq, fun q hq => p1 φ1 _ _ (Ext.new hq) (sr1.new hq) (.tup (.inl (sr1.im hq)) (rs.reverse.mono (Ext.new hq)))⟩
    · split at p1
      · rename_i xs hx
        obtain ⟨l, us, rfl, g, rs⟩ := lstOf_ok sr1 r1 hx
        exact .inl ⟨_, us, rfl, .of g, fun q hq => p1 φ1 _ _ (Ext.new hq) (sr1.new hq) (.lst (sr1.im hq) (rs.reverse.mono (Ext.new hq)))⟩
      · exact p1.elim
/-! ### xs.count(b), truths -/
def eqb (k : Bool) (v : Value) : Bool := match v with
  | .bool b => b == k
  | _ => false
theorem vals_bools : ∀ {bs : List Bool} {us : List Value}, Vals (bs.map V.bl) us → us = bs.map Value.bool
  | [], _, .nil => rfl
  | b :: bs, _, .cons r h => by
    cases r
    rw [vals_bools h]
    rfl
theorem eqb_count (k : Bool) : ∀ bs : List Bool, (bs.map Value.bool).countP (eqb k) = bs.count k
  | [] => rfl
  | b :: bs => by
    rw [List.map_cons, List.countP_cons, List.count_cons, eqb_count k bs]
    rfl
def rCntB (K : PySem.W.Frag) : V → List V → Hp → VK → Prop := fun x xs H Q => ∃ (p : Addr) (bs : List Bool) (k : Bool), x = .ref p ∧ xs = [.bl k] ∧ SqL K H p (bs.map V.bl) ∧ Q (.int (bs.count k : Nat)) H
theorem mt_bcount {X : Cx} : MtR X "list.count" (rCntB X.K) := by
  intro pins s σ H x xs v us Q I rx rxs h
  obtain ⟨p, bs, k, rfl, rfl, hs, q⟩ := h
  cases rx
  obtain ⟨u, rfl, ru⟩ := rxs.one
  cases ru
  obtain ⟨its, rv, ⟨⟨cls, dd, data, sl⟩, n, ho, hc, hdn, hd⟩, hlen⟩ := I.list hs
  simp only at hc hd
  subst hc hd
  have hi := vals_bools rv
  subst hi
  refine call_meets PySem.F.slot_list_count ⟨_, ho, rfl⟩ PySem.F.entry_list_count (PySem.F.args_list_count_2 _ _)
    (SeqAt.list_countAt p _ n dd sl (.bool k) (eqb k)) ⟨ho, fun y hy => ?_, ?_⟩
  · have hy' : y ∈ bs.map Value.bool := List.mem_toArray.mp hy
    obtain ⟨b, _, rfl⟩ := List.mem_map.mp hy'
    exact SeqAt.EqAt.bool_bool b k
  · refine ⟨.int (bs.count k : Nat), H, I.tok _, ⟨s.toks, ?_⟩, q⟩
    show Value.int (((bs.map Value.bool).countP (eqb k) : Nat) : Int) s.toks = Value.int ((bs.count k : Nat) : Int) s.toks
    rw [eqb_count]
def eCnt (a b : EF) : EF := fun ρ S => (a ρ S).bind fun l S1 => match lstOf l S1 with
  | some _ => (b ρ S1).bind fun d S2 => (match lstOf l S2 with
    | some xs => (match d, allBl xs with
      | .bl k, some bs => .ok (.int (bs.count k : Nat)) S2
      | _, _ => .no)
    | none => .no)
  | none => .no
theorem de_cnt {X : Cx} {W : WX} {w : Expr} {fa fb : EF} (h : PE X w (tBM X.K "list" (rCntB X.K) (lE X.K X.M W fa) (tCons (lE X.K X.M W fb) tNil))) : DE X W w (eCnt fa fb) :=
  pe_wk h fun σ H Q ⟨φ, ρ, S, er, sr, p⟩ => (lf.bind er sr p).imp fun x H1 ⟨φ1, S1, d, e1, sr1, r1, p1⟩ => by
    split at p1
    · rename_i ys hy
      obtain ⟨l, us, rfl, g, rs⟩ := lstOf_ok sr1 r1 hy
      refine ⟨.inl ⟨rfl, _, .of g⟩, ?_⟩
      refine (lf.bind (er.mono e1) sr1 p1).imp fun y H2 ⟨φ2, S2, d2, e2, sr2, r2, p2⟩ => ?_
      split at p2
      · rename_i xs hx
        split at p2
        · rename_i k bs hb
          obtain ⟨l2, us2, h2, g2, rs2⟩ := lstOf_ok sr2 (r1.mono e2) hx
          cases h2
          have := allBl_ok rs2 hb
          subst this
          cases r2
          exact ⟨_, bs, k, rfl, rfl, .of g2, p2 φ2 H2 _ Ext.rfl' sr2 (.int _)⟩
        · exact p2.elim
      · exact p2.elim
    · exact p1.elim
/-- a chain of two comparisons as a test -/
theorem dt_chain {X : Cx} {W : WX} {a b c : Expr} {fa fb fc : EF} {pos : Pos} {op op' : CmpOp} {r r' : R2} {o o' : OF} (ho : OpR X (compareOp op) r) (hr : Op2 X.K X.M r o) (ho' : OpR X (compareOp op') r') (hr' : Op2 X.K X.M r' o')
    (hb' : ∀ a b S d S', o' a b S = .ok d S' → ∃ k, d = .bl k) (ha : DE X W a fa) (hb : DE X W b fb) (hc : DE X W c fc)
    (h1 : PT X (.Compare a [op, op'] [b, c] pos) (tTest (tChain r r' (lE X.K X.M W fa) (lE X.K X.M W fb) (lE X.K X.M W fc)))) : DT X W (.Compare a [op, op'] [b, c] pos) (tTru (eChain o o' fa fb fc)) :=
  pt_wk h1 fun σ H Q ⟨φ, ρ, S, er, sr, p⟩ => by
    have p0 : post RB X.K X.M W φ H σ Q ((fa ρ S).bind fun x S1 => (fb ρ S1).bind fun y S2 => (o x y S2).bind fun z S3 => match z with
        | .bl true => (fc ρ S3).bind fun w S4 => (o' y w S4).bind fun d S5 => (match truD d S5 with | some k => .ok k S5 | none => .no)
        | .bl false => .ok false S3
        | _ => .no) := by
      unfold tTru eChain at p
      cases e1 : fa ρ S with
      | ok x S1 =>
        rw [e1] at p
        simp only [Res.bind] at p ⊢
        cases e2 : fb ρ S1 with
        | ok y S2 =>
          rw [e2] at p
          simp only at p ⊢
          cases e3 : o x y S2 with
          | ok z S3 =>
            rw [e3] at p
            simp only at p ⊢
            cases z with
            | bl k =>
              cases k with
              | true =>
                simp only at p ⊢
                cases e4 : fc ρ S3 with
                | ok w S4 => rw [e4] at p; exact p
                | ex _ _ => rw [e4] at p; exact p
                | no => rw [e4] at p; exact p
              | false => exact p
            | _ => exact p
          | ex _ _ => rw [e3] at p; exact p
          | no => rw [e3] at p; exact p
        | ex _ _ => rw [e2] at p; exact p
        | no => rw [e2] at p; exact p
      | ex _ _ => rw [e1] at p; exact p
      | no => rw [e1] at p; exact p
    refine (lf.bind er sr p0).imp fun x H1 ⟨φ1, S1, d, e1, sr1, r1, p1⟩ => (lf.bind (er.mono e1) sr1 p1).imp fun y H2 ⟨φ2, S2, d2, e2, sr2, r2, p2⟩ => ?_
    refine hr W φ2 S2 H2 σ x y d d2 _ sr2 (r1.mono e2) r2 ?_
    cases e : o d d2 S2 with
    | ok z S3 =>
      rw [e] at p2
      intro φ' H' zv e' s' rz
      simp only [Res.bind] at p2
      split at p2
      · cases rz
        refine ⟨true, rfl, ?_⟩
        rw [if_pos rfl]
        refine (lf.bind (((er.mono e1).mono e2).mono e') s' (p2.mono e')).imp fun w H4 ⟨φ4, S4, d4, e4, sr4, r4, p4⟩ => ?_
        refine hr' W φ4 S4 H4 σ y w d2 d4 _ sr4 ((r2.mono e').mono e4) r4 ?_
        cases e5 : o' d2 d4 S4 with
        | ok u S5 =>
          rw [e5] at p4
          intro φ5 H5 uv e6 s6 ru
          obtain ⟨k, rfl⟩ := hb' _ _ _ _ _ e5
          cases ru
          exact ⟨k, rfl, p4 φ5 H5 k e6 s6 rfl⟩
        | ex _ _ => rw [e5] at p4; exact p4
        | no => rw [e5] at p4; exact p4
      · cases rz
        refine ⟨false, rfl, ?_⟩
        rw [if_neg Bool.false_ne_true]
        exact ⟨false, rfl, p2 φ' H' _ e' s' rfl⟩
      · exact p2.elim
    | ex c S3 => rw [e] at p2; exact p2
    | no => rw [e] at p2; exact p2
end DV
set_option Elab.async false
set_option linter.all false
set_option maxRecDepth 100000
namespace DV
open PySem PySem.Spec PyProof.Rows L2
theorem exT_ok {P : Program} {w : World} {H : Hp} {h : Heap} {a : Addr} {oe : Obj} (e : h.get? a = some oe) : ObjOk P w H h a (ExT oe a) := ⟨e, ⟨oe, e⟩, fun _ _ e k => k _ e⟩
section
variable {X : Cx} {pins : List (Addr × Obj)} {σ : L2.St} {H : Hp} {s : Shared}
/-- an object that nobody tracked is tracked from here on -/
theorem Inv.trk {a : Addr} {oe : Obj} {vs : Array Value} (I : Inv X pins σ H s) (ha : s.heap.get? a = some oe) (hd : oe.data = .fields vs) (na : H a = none) (nL : a ≠ X.env.locals)
    (n0 : X.s_0.heap.get? a = none) (np : ∀ p ∈ X.pn ++ pins, p.1 ≠ a) : Inv X pins σ (upd H a (ExT oe a)) s := by
  have ne0 : ∀ b o, X.s_0.heap.get? b = some o → b ≠ a := fun b o e z => by subst z; rw [n0] at e; cases e
  refine ⟨I.ok, I.os, I.bare, ⟨I.base.keep, I.base.slot, fun b o e n hx => ?_, I.base.there, fun b xs e => ?_, fun b o u e => ?_, fun b ps e => ?_⟩, I.loc, I.cell, ?_, fun x c e => ?_, fun p hp => ?_, fun b u e => ?_, I.len⟩
  · rw [upd_ne (ne0 b o e)]; exact I.base.free b o e n hx
  · have := I.base.tups b xs e
    rw [upd_ne (ne_of_none this na)]; exact this
  · have := I.base.frzs b o u e
    rw [upd_ne (ne_of_none this na)]; exact this
  · obtain ⟨more, this⟩ := I.base.tbls b ps e
    exact ⟨more, by rw [upd_ne (ne_of_none this na)]; exact this⟩
  · rw [upd_ne (fun z => nL z.symm)]; exact I.free
  · have hc : c ≠ a := fun z => by
      subst z
      obtain ⟨v, o, q, qd⟩ := I.cell x c e
      rw [ha] at q; cases q
      rw [hd] at qd; cases qd
    rw [upd_ne hc]; exact I.freeC x c e
  · obtain ⟨p1, p2, p3⟩ := I.pin p hp
    exact ⟨p1, by rw [upd_ne (np p hp)]; exact p2, p3⟩
  · by_cases hb : b = a
    · subst hb; rw [upd_same] at e; cases e
      exact exT_ok ha
    · rw [upd_ne hb] at e
      exact (I.hok b u e).stay (fun c v _ q => q) (fun c q => by rw [upd_ne (ne_of_none q na)]; exact q) fun c xs q => by rw [upd_ne (ne_of_none q na)]; exact q
theorem Inv.suiteT {a : Addr} {pn' : List (Addr × Obj)} (I : Inv X pins σ H s) : Inv (X.suite a (X.pn ++ pins)) [] σ H s :=
  ⟨I.ok.suite _ _, I.os, I.bare, I.base, I.loc, I.cell, I.free, I.freeC, fun p hp => I.pin p (by rw [List.append_nil] at hp; exact hp), I.hok, I.len⟩
theorem Inv.unsuiteT {a : Addr} {pn' : List (Addr × Obj)} (I : Inv (X.suite a (X.pn ++ pins)) pn' σ H s) (ok : X.Ok) : Inv X pins σ H s :=
  ⟨ok, I.os, I.bare, I.base, I.loc, I.cell, I.free, I.freeC, fun p hp => I.pin p (List.mem_append_left _ hp), I.hok, I.len⟩
end
/-- what a clause wishes of an exception that has no dict of its own: the suite has it in slot i, as an object that is tracked -/
def wTrk (K : PySem.W.Frag) (c : Value) (i : Nat) (ts : Addr → Obj → TS) (Wout : WX) (D : Ends) : WX := fun cls d σ H =>
  d = none ∧ ∃ b, PySem.W.exmOne K cls c = some b ∧ (b = false → Wout cls none σ H) ∧
    (b = true → ∀ a oe, Zc cls none oe → (∃ vs, oe.data = .fields vs) → H a = none → ts a oe ⟨fun τ G => D.nx (τ.set i none) G, D.rt, fun τ G => D.bk (τ.set i none) G, fun τ G => D.ct (τ.set i none) G⟩ (σ.set i (some (.ref a))) (upd H a (ExT oe a)))
section
variable {X : Cx} {x n : Str} {c cls : Value} {i : Nat} {a : Addr} {B h : Heap} {body suite : List Stmt} {b₀ : Stmt} {np pos pos' : Pos} {tb : WX → TS} {ts : Addr → Obj → TS} {Wout : WX} {pins : List (Addr × Obj)} {σ : L2.St} {H : Hp} {s sI : Shared} {D : Ends}
/-- the exception in the air stands apart from all that the frame has -/
structure Apart (X : Cx) (pins : List (Addr × Obj)) (sI : Shared) (a : Addr) : Prop where
  loc : a ≠ X.env.locals
  fs : a ∉ X.fs
  old : X.s_0.heap.get? a = none
  pin : ∀ p ∈ X.pn ++ pins, p.1 ≠ a
theorem apart_of (hex : X.ex = []) (hs : X.stack = X.env :: X.outer) (hf : X.env.frame = some X.env.locals) (J : Inv X pins σ H sI) (nb : ∀ b o, sI.heap.get? b = some o → b ∉ frs X.stack → B.get? b = some o)
    (fl : HandSPX.FlyingZ B (X.env :: X.outer) a (Zc cls none) h) : Apart X pins sI a := by
  obtain ⟨oe, vs, he, _, hd⟩ := fl.there
  have out : a ∉ frs (X.env :: X.outer) := by
    intro hm
    obtain ⟨_, o, e, q⟩ := Heap.FunFrames.mem fl.2.2.1 hm
    exact q vs (by rw [he] at e; cases e; exact hd)
  have gone : sI.heap.get? a = none := by
    cases q : sI.heap.get? a with
    | none => rfl
    | some o => have z := nb a o q (hs ▸ out); rw [fl.2.1] at z; exact (nomatch z)
  refine ⟨fun z => out ?_, fun hm => out ?_, ?_, fun p hp z => ?_⟩
  · exact List.mem_filterMap.mpr ⟨X.env, .head _, by rw [hf, z]⟩
  · obtain ⟨e, he', q⟩ := List.mem_filterMap.mp hm
    exact List.mem_filterMap.mpr ⟨e, .tail _ he', q⟩
  · cases q : X.s_0.heap.get? a with
    | none => rfl
    | some o =>
      obtain ⟨o', q'⟩ := J.base.there a o q (by rw [hex]; exact List.not_mem_nil)
      rw [gone] at q'; exact (nomatch q')
  · have := (J.pin p hp).1
    rw [z, gone] at this; exact (nomatch this)
/-- the class of the clause, looked up where the exception is handled -/
theorem named (hc : Names X x c) {pn : List (Addr × Obj)} (I : Inv (X.suite a pn) [] σ H s) {Q : Value → Shared → Prop} {E : Value → Shared → Prop} (q : Q c s) : wpAny (model X.prog X.w) (X.A.mark (some (.ref a))) (eval (.Name x np) X.env) Q E s := by
  rcases hc with ⟨g, d, m | ⟨m, v, k⟩⟩
  · exact ld_glob (X := X.suite a pn) I g m q d
  · exact ld_blt (X := X.suite a pn) I g m v q k d
/-- behind the suite the clause's name is gone -/
theorem left_ok (hN : X.N.Nodup) (hi : X.N[i]? = some n) (hln : X.env.kindOf n = some .local) (ok : X.Ok) {f : Flow} (z : SP (X.suite a (X.pn ++ pins)) [] ⟨fun τ G => D.nx (τ.set i none) G, D.rt, fun τ G => D.bk (τ.set i none) G, fun τ G => D.ct (τ.set i none) G⟩ f s) :
    wpAny (model X.prog X.w) X.A (do bindName X.env n .none; unbindBehindTheSuite X.env n pos') (fun _ t => SP X pins D f t) X.xe s := by
  cases f <;> first
    | exact let ⟨_, _, J, q⟩ := z; gone_ok (Inv.unsuiteT J ok) hN hi hln fun _ J' => ⟨_, _, J', q⟩
    | exact let ⟨_, _, _, J, r, q⟩ := z; gone_ok (Inv.unsuiteT J ok) hN hi hln fun _ J' => ⟨_, _, _, J', r, q⟩
theorem of_body (ok : X.Ok) {xe : Value → Shared → Prop} {f : Flow} (z : SP (X.tr (X.pn ++ pins) xe) [] D f s) : SP X pins D f s := by
  cases f <;> first
    | exact let ⟨τ, G, J, q⟩ := z; ⟨τ, G, J.ofTry ok, q⟩
    | exact let ⟨v, τ, G, J, r, q⟩ := z; ⟨v, τ, G, J.ofTry ok, r, q⟩
end
section
variable {X : Cx} {x n : Str} {c : Value} {i : Nat} {body suite : List Stmt} {b₀ : Stmt} {np pos pos' : Pos} {tb : WX → TS} {ts : Addr → Obj → TS} {Wout : WX}
/-- try: body / except x as n: suite, the exception being an object that is tracked from there on -/
theorem ps_try_trk (hex : X.ex = []) (hs : X.stack = X.env :: X.outer) (hf : X.env.frame = some X.env.locals) (hN : X.N.Nodup) (hi : X.N[i]? = some n) (hln : X.env.kindOf n = some .local) (hc : Names X x c) (tk : Takes X Wout)
    (hb : ∀ (W : WX) (pn : List (Addr × Obj)) (xe : Value → Shared → Prop), Takes (X.tr pn xe) W → PassesOwn (model X.prog X.w) X.A X.env xe → PSs (X.tr pn xe) body (tb W))
    (hsu : ∀ (a : Addr) (oe : Obj) (pn : List (Addr × Obj)), PSs (X.suite a pn) (b₀ :: suite) (ts a oe)) :
    PS X (.Try body [.ExceptHandler (some (.Name x np)) (some n) (b₀ :: suite) pos'] [] [] pos) (fun D σ H => tb (wTrk X.K c i ts Wout D) D σ H) := by
  constructor
  intro pins s σ H D I h
  have hfr : X.A.frames = some (X.env :: X.outer) := hs ▸ I.ok.frames
  have caught : Takes (X.tr (X.pn ++ pins) fun e s1 => wpAny (model X.prog X.w) X.A (noteFrame e X.env) (fun _ s2 => wpAny (model X.prog X.w) X.A (setFlight e none)
      (fun _ s3 => wpAny (model X.prog X.w) X.A (handleBy e X.env [.ExceptHandler (some (.Name x np)) (some n) (b₀ :: suite) pos']) (SP X pins D) X.xe s3) X.xe s2) X.xe s1) (wTrk X.K c i ts Wout D) := by
    rintro _ s' ⟨a, B, sI, _, σ', H', cls, d, rfl, J0, nb, up, sky, na, os, ag, rfl, b, hb1, hno, hyes⟩
    have J := J0.ofTry I.ok
    refine Sky.land Zc.steady hfr hf (hs ▸ sky) fun h3 fl3 up3 => ?_
    have ap := apart_of hex hs hf J nb fl3
    have J3 := J.landed (s' := { s' with heap := h3 }) nb fl3.1 (up.trans up3) os ag
    have ⟨oe, vs, he, hz, hd⟩ := fl3.there
    refine wpAny_handleBy_cons (codeAny_handlers_test ?_) (fun q => by cases q)
    refine named hc (J3.suite he hd na ap.loc ap.fs) ?_
    refine (PySem.W.exm_one (M := model X.prog X.w) J3.kIn (fun A Q E s k q => wpAny_typeOf_ref (k _ _ he) (by rw [hz.1]; exact q)) hb1).here ?_
    cases b
    · show wpAny _ X.A (handleBy (.ref a) X.env []) _ _ _
      apply wpAny_handleBy_nil
      have ⟨_, _, _, o5, v5, T, _, _, e5, _, d5, h5, _⟩ := fl3
      unfold PySem.passOn
      refine wpAny_bind (wpAny_field e5 d5 h5 ?_)
      have off : wpAny (model X.prog X.w) X.A (setFlight (.ref a) X.env.frame) (fun _ s4 => wpAny (model X.prog X.w) X.A (throw (.ref a) : Sem Flow) (SP X pins D) X.xe s4) X.xe { s' with heap := h3 } :=
        hf ▸ HandSPX.setFlight_upZ fl3 fun h4 up4 u4 => wpAny_throw (tk _ _ ⟨a, B, sI, pins, σ', H', cls, none, rfl, J, nb, (up.trans up3).trans u4, .inr (.inr (hs ▸ up4)), na, os, ag, hno rfl⟩)
      rw [if_neg (by simp)]
      first | exact wpAny_bind (wpAny_pure (wpAny_bind off)) | exact wpAny_bind off
    · refine codeAny_handlers_suite_as (HandSPX.lands_againZ fl3 fun h4 fl4 up4 => ?_)
      have ⟨o4, v4, e4, z4, d4⟩ := fl4.there
      have J4 := J.landed (s' := { s' with heap := h4 }) nb fl4.1 ((up.trans up3).trans up4) os ag
      refine store_ok (X := X.suite a (X.pn ++ pins)) (v := .ref a) (Inv.suiteT (a := a) (pn' := []) (Inv.trk J4 e4 d4 na ap.loc ap.old ap.pin)) hN hi (.inl hln) rfl (fun s5 S5 => ?_) (.inr hln)
      exact wpAny_mono ((hsu a o4 (X.pn ++ pins)).run [] s5 _ _ _ S5 (hyes rfl a o4 z4 ⟨_, d4⟩ na)) (fun f s6 z => left_ok hN hi hln I.ok z) fun _ _ z => z.elim
  refine wpAny_Try_except (wpAny_mono ((hb _ _ _ caught PassesOwn.looking).run [] s σ H D (I.toTry _) h) (fun f s1 z => ?_) fun _ _ z => z)
  cases f
  · exact wpAny_execs_nil (of_body I.ok z)
  all_goals exact of_body I.ok z
end
end DV
namespace DV
open PySem PySem.Spec PyProof.Rows L2
/-! ### raise, try .. except .. as -/
def sRaise (c : Str) : SF := fun ρ S => .ex c ρ S
/-- a class whose instances are raised: over ValueError, without an __init__ of its own -/
structure XC (K : PySem.W.Frag) (mg : Str → Option Value) (c : Str) : Prop where
  ex : ∃ C, mg c = some (.ref C) ∧ PySem.W.excIn K C [.type "ValueError", .type "Exception", .type "BaseException", .type "object"] "ValueError.__new__" = true ∧ PySem.W.keepIn K (.ref C) = true ∧
    PySem.W.subIn K (.ref C) (.type "BaseException") = some true ∧ PySem.W.typeIn K (.ref C) = some (.type "type")
theorem ds_raise {X : Cx} {W : WX} {c m : Str} {j : Nat} {p p2 p3 pos : Pos} (hc : X.calm = true) (tk : Takes X W) (hx : XC X.K X.mg c) (hg : Gl X c) (hd : (c == ("__debug__" : Str)) = false := by decide) :
    DS X W (.Raise (some (.Call (.Name c p) [.Constant (.str m) j p2] [] p3)) none pos) (sRaise c) := by
  obtain ⟨C, gC, q, kC, r1, r2⟩ := hx.ex
  refine ps_wk (ps_raise hc tk (pmk_own PySem.F.excBase_ValueError q gC kC (raises_own r1 r2) hg hd)) fun N σ H ⟨φ, ρ, S, er, sr, p⟩ => ?_
  obtain ⟨C', e, h⟩ := p
  cases gC.symm.trans e
  exact h φ σ H Ext.rfl' sr er
/-- the suite's ends: the clause's name is gone -/
def outR (i : Nat) : SR → SR
  | .nx ρ S => .nx (ρ.set i none) S
  | .bk ρ S => .bk (ρ.set i none) S
  | .ct ρ S => .ct (ρ.set i none) S
  | .rt d S => .rt d S
  | _ => .no
def sTry (sub : Str → Option Bool) (i : Nat) (f g : SF) : SF := fun ρ S => match f ρ S with
  | .ex c ρ1 S1 => (match sub c with
    | some true => outR i (g (ρ1.set i (some (.exc c))) S1)
    | some false => .ex c ρ1 S1
    | none => .no)
  | r => r
/-- which classes the clause takes -/
def Catch (K : PySem.W.Frag) (mg : Str → Option Value) (cv : Value) (sub : Str → Option Bool) : Prop := ∀ c b, sub c = some b → ∃ C, mg c = some (.ref C) ∧ PySem.W.exmOne K (.ref C) cv = some b
theorem Er.unset {K : PySem.W.Frag} {mg : MG} {φ : List Addr} {H : Hp} {σ : L2.St} {ρ : Lc} (er : Er K mg φ H σ ρ) (i : Nat) : Er K mg φ H (σ.set i none) (ρ.set i none) := by
  refine ⟨by simp [er.len], fun j d h => ?_⟩
  rw [List.getElem?_set] at h ⊢
  by_cases hj : i = j
  · rw [if_pos hj] at h; split at h <;> cases h
  · rw [if_neg hj] at h ⊢; exact er.at' j d h
theorem ds_try {X : Cx} {W : WX} {x n : Str} {cv : Value} {i : Nat} {body suite : List Stmt} {b₀ : Stmt} {np pos pos' : Pos} {f g : SF} {sub : Str → Option Bool} (hex : X.ex = []) (hs : X.stack = X.env :: X.outer) (hf : X.env.frame = some X.env.locals)
    (hN : X.N.Nodup) (hi : X.N[i]? = some n) (hln : X.env.kindOf n = some .local) (hc : Names X x cv) (tk : Takes X W) (hsub : Catch X.K X.mg cv sub)
    (hb : ∀ (W' : WX) (pn : List (Addr × Obj)) (xe : Value → Shared → Prop), Takes (X.tr pn xe) W' → PassesOwn (model X.prog X.w) X.A X.env xe → DSs (X.tr pn xe) W' body f)
    (hsu : ∀ (a : Addr) (pn : List (Addr × Obj)), DSs (X.suite a pn) wF (b₀ :: suite) g) :
    DS X W (.Try body [.ExceptHandler (some (.Name x np)) (some n) (b₀ :: suite) pos'] [] [] pos) (sTry sub i f g) := by
  refine ps_wk (ps_try_trk (ts := fun _ _ => lS X.K X.M wF g) (tb := fun W' => lS X.K X.M W' f) hex hs hf hN hi hln hc tk hb fun a oe pn => hsu a pn) fun N σ H ⟨φ, ρ, S, er, sr, p⟩ => ?_
  refine ⟨φ, ρ, S, er, sr, ?_⟩
  unfold sTry at p
  cases e : f ρ S with
  | ex c ρ1 S1 =>
    rw [e] at p
    simp only at p
    cases hb : sub c with
    | none => rw [hb] at p; exact p.elim
    | some b =>
      rw [hb] at p
      obtain ⟨C, gC, hm⟩ := hsub c b hb
      refine ⟨C, gC, fun φ' σ' H' e' sr' er' => ⟨rfl, b, hm, fun hz => ?_, fun hz a oe hzc hfd na => ?_⟩⟩
      · subst hz
        obtain ⟨C', e2, h⟩ := p
        cases gC.symm.trans e2
        exact h φ' σ' H' e' sr' er'
      · subst hz
        have p := postS.mono e' p
        have en := Ext.new (φ := φ') (o := ExT oe a) na
        refine ⟨φ', _, S1, (er'.mono en).set (.exc gC ⟨hzc, hfd⟩ (sr'.im na)) i, sr'.new na, ?_⟩
        have p := postS.mono en p
        cases e2 : g (ρ1.set i (some (.exc c))) S1 with
        | nx ρ2 S2 => rw [e2] at p; exact fun φ2 σ2 H2 x s r => p φ2 _ H2 x s (r.unset i)
        | bk ρ2 S2 => rw [e2] at p; exact fun φ2 σ2 H2 x s r => p φ2 _ H2 x s (r.unset i)
        | ct ρ2 S2 => rw [e2] at p; exact fun φ2 σ2 H2 x s r => p φ2 _ H2 x s (r.unset i)
        | rt d S2 => rw [e2] at p; exact p
        | ex c2 ρ2 S2 => rw [e2] at p; exact p.elim
        | no => rw [e2] at p; exact p.elim
  | nx ρ1 S1 => rw [e] at p; exact p
  | rt d S1 => rw [e] at p; exact p
  | bk ρ1 S1 => rw [e] at p; exact p
  | ct ρ1 S1 => rw [e] at p; exact p
  | no => rw [e] at p; exact p
/-! ### isinstance of a caught exception -/
theorem call_isT {X : Cx} : CallR X (.builtin "isinstance") (fun xs H Q => ∃ (a D : Addr) (oe : Obj) (c : V) (cv : Value) (b : Bool), xs = [.ref a, c] ∧ H a = some (ExT oe a) ∧ IsX D oe ∧ ExcC X.K D ∧ ClsV c cv ∧ PySem.W.kitOne X.K (.ref D) cv = some b ∧ Q (.bl b) H) := by
  rintro pins s σ H xs us Q I r ⟨a, D, oe, c, cv, b, rfl, ha, ⟨hz, vs, hv⟩, C, hc, e, q⟩
  obtain ⟨u1, u2, rfl, r1, r2⟩ := vals2 r
  cases r1
  have := hc.eq r2
  subst this
  have hget : s.heap.get? a = some oe := (show ObjOk X.prog X.w H s.heap a (ExT oe a) from I.hok a _ ha).1
  have J : PySem.W.InstAt s.heap a oe D none := by
    cases oe with
    | mk oc od oda osl =>
      obtain ⟨rfl, rfl⟩ := hz
      cases hv
      exact ⟨hget, rfl, rfl, trivial⟩
  exact PySem.W.kia_one (PySem.W.handS_kitx_exc C.hg C.hk C.hs C.hd C.ha C.hn C.ht C.hm) I.kIn J e (fun z => by cases z) fun tk => ⟨.bl b, H, I.kept (t' := tk) fun _ _ z => z, rfl, q⟩
/-- the answers for the class cv, by the names of the exceptions' classes -/
def IsTab (K : PySem.W.Frag) (mg : Str → Option Value) (cv : Value) (sub : Str → Option Bool) : Prop := ∀ c b, sub c = some b → ∃ D, mg c = some (.ref D) ∧ ExcC K D ∧ PySem.W.kitOne K (.ref D) cv = some b
def eIsX (a : EF) (sub : Str → Option Bool) : EF := fun ρ S => (a ρ S).bind fun d S1 => match d with
  | .exc c => (match sub c with
    | some b => .ok (.bl b) S1
    | none => .no)
  | _ => .no
theorem de_isx {X : Cx} {W : WX} {w : Expr} {fa : EF} {c : V} {cv : Value} {sub : Str → Option Bool} (hc : ClsV c cv) (hsub : IsTab X.K X.mg cv sub)
    (h : PE X w (tCB (fun xs H Q => ∃ (a D : Addr) (oe : Obj) (c : V) (cv : Value) (b : Bool), xs = [.ref a, c] ∧ H a = some (ExT oe a) ∧ IsX D oe ∧ ExcC X.K D ∧ ClsV c cv ∧ PySem.W.kitOne X.K (.ref D) cv = some b ∧ Q (.bl b) H) (tCons (lE X.K X.M W fa) (tCons (tC c) tNil)))) : DE X W w (eIsX fa sub) :=
  pe_wk h fun σ H Q ⟨φ, ρ, S, er, sr, p⟩ => (lf.bind er sr p).imp fun x H1 ⟨φ1, S1, d, e1, sr1, r1, p1⟩ => by
    split at p1
    · split at p1
      · rename_i b hb
        cases r1 with
        | exc gC hx t =>
          obtain ⟨D, gD, eD, hk⟩ := hsub _ _ hb
          cases gC.symm.trans gD
          exact ⟨_, _, _, c, cv, b, rfl, t.2, hx, eD, hc, hk, p1 φ1 H1 _ Ext.rfl' sr1 (.bl _)⟩
      · exact p1.elim
    · exact p1.elim
end DV
set_option Elab.async false
set_option linter.all false
set_option maxRecDepth 100000
namespace DV
open PySem PySem.Spec PyProof.Rows L2
/-! ### instances: fields, methods, new ones -/
def lookK {α : Type} (f : Str) : List Str → List α → Option α
  | k :: ks, v :: vs => if k = f then some v else lookK f ks vs
  | _, _ => none
def putK (f : Str) : List Str → List Str
  | [] => [f]
  | k :: ks => if k = f then k :: ks else k :: putK f ks
def putW {α : Type} (f : Str) (y : α) : List Str → List α → List α
  | [], _ => [y]
  | k :: ks, v :: vs => if k = f then y :: vs else v :: putW f y ks vs
  | _ :: _, [] => []
section
variable {K : PySem.W.Frag} {mg : MG} {φ : List Addr} {H : Hp}
theorem lookK_zip {f : Str} : ∀ {ks : List Str} {vs : List V}, (ks.zip vs).lookup f = lookK f ks vs
  | [], _ => by simp [lookK]
  | _ :: _, [] => by simp [lookK]
  | k :: ks, v :: vs => by
    rw [List.zip_cons_cons, List.lookup_cons]
    unfold lookK
    by_cases h : k = f
    · subst h; simp
    · rw [if_neg h, beq_eq_false_iff_ne.mpr (Ne.symm h)]
      exact lookK_zip
theorem putF_zip {f : Str} {y : V} : ∀ {ks : List Str} {vs : List V}, ks.length = vs.length → putF f y (ks.zip vs) = (putK f ks).zip (putW f y ks vs)
  | [], [], _ => rfl
  | k :: ks, v :: vs, h => by
    rw [List.zip_cons_cons]
    unfold putF putK putW
    by_cases hk : k = f
    · rw [if_pos hk, if_pos hk, if_pos hk]; rfl
    · rw [if_neg hk, if_neg hk, if_neg hk, List.zip_cons_cons, putF_zip (by simpa using h)]
theorem putW_len {α : Type} {f : Str} {y : α} : ∀ {ks : List Str} {vs : List α}, ks.length = vs.length → (putK f ks).length = (putW f y ks vs).length
  | [], [], _ => rfl
  | k :: ks, v :: vs, h => by
    unfold putK putW
    by_cases hk : k = f
    · rw [if_pos hk, if_pos hk]; simpa using h
    · rw [if_neg hk, if_neg hk]; simp only [List.length_cons]; rw [putW_len (by simpa using h)]
theorem Rps.look {f : Str} : ∀ {ks : List Str} {vs : List V} {ds : List D} {d : D}, Rps K mg φ H vs ds → lookK f ks ds = some d → ∃ v, lookK f ks vs = some v ∧ Rp K mg φ H v d
  | [], _, _, _, _, e => by simp [lookK] at e
  | k :: ks, _, _, _, .nil, e => by simp [lookK] at e
  | k :: ks, _, _, d, .cons a b, e => by
    unfold lookK at e ⊢
    by_cases hk : k = f
    · rw [if_pos hk] at e ⊢; cases e; exact ⟨_, rfl, a⟩
    · rw [if_neg hk] at e ⊢; exact Rps.look b e
theorem Rps.putW {f : Str} {y : V} {d : D} (r : Rp K mg φ H y d) : ∀ {ks : List Str} {vs : List V} {ds : List D}, Rps K mg φ H vs ds → Rps K mg φ H (DV.putW f y ks vs) (DV.putW f d ks ds)
  | [], _, _, _ => .cons r .nil
  | k :: ks, _, _, .nil => .nil
  | k :: ks, _, _, .cons a b => by
    unfold DV.putW
    by_cases hk : k = f
    · rw [if_pos hk, if_pos hk]; exact .cons r b
    · rw [if_neg hk, if_neg hk]; exact .cons a (Rps.putW r b)
end
/-- a class of the text whose instances have plain fields -/
structure IC (K : PySem.W.Frag) (mg : Str → Option Value) (c : Str) (fields : List Str) : Prop where
  ex : ∃ C, mg c = some (.ref C) ∧ Cls K C ∧ ∀ f ∈ fields, NoAttr K C f
/-- the instance: by value or of the store -/
def insOf (c : Str) : D → Sto → Option (List Str × List D)
  | .ins c' ks vs, _ => if c' = c then some (ks, vs) else none
  | .ob n, S => match S[n]? with
    | some (.ins c' ks vs) => if c' = c then some (ks, vs) else none
    | _ => none
  | _, _ => none
theorem insOf_ok {K : PySem.W.Frag} {mg : MG} {φ : List Addr} {H : Hp} {S : Sto} {c : Str} {v : V} {d : D} {ks : List Str} {ds : List D} (s : Sr K mg φ S H) (r : Rp K mg φ H v d) (h : insOf c d S = some (ks, ds)) :
    ∃ a C dx vs, v = .ref a ∧ mg c = some (.ref C) ∧ H a = some (.ins C dx (ks.zip vs)) ∧ ks.length = vs.length ∧ Rps K mg φ H vs ds := by
  unfold insOf at h
  split at h
  · split at h
    · rename_i hc
      cases h
      cases r with
      | ins g t kk rs => exact ⟨_, _, _, _, rfl, hc ▸ g, t.2, kk, rs⟩
    · cases h
  · split at h
    · rename_i e
      split at h
      · rename_i hc
        cases h
        cases r with
        | ob hn =>
          obtain ⟨a, ha, C, dx, us, g, t, _, kk, rs⟩ := s.at' _ _ e
          rw [hn] at ha; cases ha
          exact ⟨_, C, dx, us, rfl, hc ▸ g, t, kk, rs⟩
      · cases h
    · cases h
  · cases h
def eFld (c f : Str) (a : EF) : EF := fun ρ S => (a ρ S).bind fun d S1 => match insOf c d S1 with
  | some (ks, vs) => (match lookK f ks vs with
    | some x => .ok x S1
    | none => .no)
  | none => .no
/-- o.f = e, o an object of the store -/
def putI (c f : Str) (d v : D) (S : Sto) : Option Sto := match d with
  | .ob n => match S[n]? with
    | some (.ins c' ks vs) => if c' = c ∧ ks.length < 900 then some (S.set n (.ins c (putK f ks) (putW f v ks vs))) else none
    | _ => none
  | _ => none
def sFld (c f : Str) (a e : EF) : SF := fun ρ S => (e ρ S).sb ρ fun v S1 => (a ρ S1).sb ρ fun d S2 => match putI c f d v S2 with
  | some S3 => .nx ρ S3
  | none => .no
theorem putI_ok {K : PySem.W.Frag} {mg : MG} {φ : List Addr} {H : Hp} {S T : Sto} {c f : Str} {x y : V} {d v : D} (s : Sr K mg φ S H) (r : Rp K mg φ H x d) (ry : Rp K mg φ H y v) (h : putI c f d v S = some T) :
    ∃ a C dx fs, x = .ref a ∧ mg c = some (.ref C) ∧ H a = some (.ins C dx fs) ∧ fs.length < 1000 ∧ Ext φ H φ (upd H a (.ins C dx (putF f y fs))) ∧ Sr K mg φ T (upd H a (.ins C dx (putF f y fs))) := by
  unfold putI at h
  split at h
  · split at h
    · rename_i c' ks vs e
      split at h
      · rename_i hc
        obtain ⟨rfl, hl⟩ := hc
        cases h
        cases r with
        | ob hn =>
          rename_i b
          obtain ⟨a, ha, C, dx, us, g, t, dt, kk, rs⟩ := s.at' _ _ e
          obtain rfl : b = a := by rw [hn] at ha; exact Option.some.inj ha
          have ex : Ext φ H φ (upd H b (.ins C dx (putF f y (ks.zip us)))) := Ext.put hn
          refine ⟨b, C, dx, _, rfl, g, t, by rw [List.length_zip]; omega, ex, s.put hn ?_⟩
          rw [putF_zip kk] at ex ⊢
          exact ⟨C, dx, _, g, upd_same, ex.im dt, putW_len kk, (rs.putW ry).mono ex⟩
      · cases h
    · cases h
  · cases h
section
variable {X : Cx} {W : WX} {o e value : Expr} {c f : Str} {fields : List Str} {pos pos' tpos : Pos} {fa fe : EF}
theorem de_fld (hI : IC X.K X.mg c fields) (hf : f ∈ fields) (ha : DE X W e fa) (hb : attributeBase e f X.env (eval e X.env) = eval e X.env) : DE X W (.Attribute e f pos) (eFld c f fa) :=
  pe_wk (pe_fld ha hb) fun σ H Q ⟨φ, ρ, S, er, sr, p⟩ => (lf.bind er sr p).imp fun x H1 ⟨φ1, S1, d, e1, sr1, r1, p1⟩ => by
    split at p1
    · rename_i ks vs hi
      split at p1
      · rename_i v hv
        obtain ⟨a, C, dx, us, rfl, g, t, kk, rs⟩ := insOf_ok sr1 r1 hi
        obtain ⟨C', g', cl, na⟩ := hI.ex
        cases g.symm.trans g'
        obtain ⟨u, hu, ru⟩ := rs.look hv
        exact ⟨a, C, dx, _, u, rfl, t, cl, na f hf, by rw [lookK_zip]; exact hu, p1 φ1 H1 _ Ext.rfl' sr1 ru⟩
      · exact p1.elim
    · exact p1.elim
theorem ds_fld (hI : IC X.K X.mg c fields) (hf : f ∈ fields) (ha : DE X W o fa) (hv : DE X W value fe) (hs : swapsWith value (some (.Attribute o f pos')) pos.line X.env = pure false) : DS X W (.Assign [.Attribute o f pos'] value pos) (sFld c f fa fe) :=
  ps_wk (ps_fld ha hv hs) fun N σ H ⟨φ, ρ, S, er, sr, p⟩ => (lf.sb er sr p).imp fun y H1 ⟨φ1, S1, v, e1, sr1, r1, p1⟩ => (lf.sb (er.mono e1) sr1 p1).imp fun x H2 ⟨φ2, S2, d, e2, sr2, r2, p2⟩ => by
    split at p2
    · rename_i T hT
      obtain ⟨a, C, dx, fs, rfl, g, t, hl, ex, sT⟩ := putI_ok sr2 r2 (r1.mono e2) hT
      obtain ⟨C', g', cl, na⟩ := hI.ex
      cases g.symm.trans g'
      exact ⟨a, C, dx, fs, rfl, t, cl, na f hf, hl, p2 φ2 σ _ ex sT (((er.mono e1).mono e2).mono ex)⟩
    · exact p2.elim
/-- o.f += e, ints -/
def sFldAug (c f : Str) (a e : EF) : SF := fun ρ S => (a ρ S).sb ρ fun d S1 => match insOf c d S1 with
  | some (ks, vs) => (match lookK f ks vs with
    | some (.int i) => (e ρ S1).sb ρ fun v S2 => (match v with
      | .int j => (match putI c f d (.int (i + j)) S2 with
        | some S3 => .nx ρ S3
        | none => .no)
      | _ => .no)
    | _ => .no)
  | none => .no
theorem ds_fldaug (hI : IC X.K X.mg c fields) (hf : f ∈ fields) (ha : DE X W o fa) (hv : DE X W value fe) : DS X W (.AugAssign (.Attribute o f tpos) .Add value pos) (sFldAug c f fa fe) :=
  ps_wk (ps_fldaug ha hv in_add) fun N σ H ⟨φ, ρ, S, er, sr, p⟩ => (lf.sb er sr p).imp fun x H1 ⟨φ1, S1, d, e1, sr1, r1, p1⟩ => by
    split at p1
    · rename_i ks vs hi
      split at p1
      · rename_i i hv
        obtain ⟨a, C, dx, us, rfl, g, t, kk, rs⟩ := insOf_ok sr1 r1 hi
        obtain ⟨C', g', cl, na⟩ := hI.ex
        cases g.symm.trans g'
        obtain ⟨u, hu, ru⟩ := rs.look hv
        cases ru
        refine ⟨a, C, dx, _, _, rfl, t, cl, na f hf, by rw [lookK_zip]; exact hu, (lf.sb (er.mono e1) sr1 p1).imp fun y H2 ⟨φ2, S2, v, e2, sr2, r2, p2⟩ => ?_⟩
        split at p2
        · rename_i j
          cases r2
          split at p2
          · rename_i T hT
            obtain ⟨a', C', dx', fs', e3, g', t', hl, ex, sT⟩ := putI_ok sr2 (r1.mono e2) (.int (i + j)) hT
            cases e3
            cases g.symm.trans g'
            exact ⟨i, j, rfl, rfl, dx', fs', t', hl, p2 φ2 σ _ ex sT (((er.mono e1).mono e2).mono ex)⟩
          · exact p2.elim
        · exact p2.elim
      · exact p1.elim
    · exact p1.elim
end
/-- a call from which no exception is to leave -/
def Res.noex {α : Type} : Res α → Res α
  | .ex _ _ => .no
  | r => r
theorem post.noex {K : PySem.W.Frag} {mg : MG} {W : WX} {φ : List Addr} {H : Hp} {σ : L2.St} {Q : VK} : ∀ {r : Res D}, post (Rp K mg) K mg W φ H σ Q r.noex → ∀ W' σ', post (Rp K mg) K mg W' φ H σ' Q r
  | .ok _ _, h, _, _ => h
  | .ex _ _, h, _, _ => h.elim
  | .no, h, _, _ => h
/-- a method of a class of the text -/
def MDef (P : Program) (w : World) (K : PySem.W.Frag) (mg : Str → Option Value) (base : Heap) (c m : Str) (ps : List Str) (k n : Nat) (F : FF) : Prop :=
  ∃ C a fd, mg c = some (.ref C) ∧ Cls K C ∧ Meth K C m a ∧ FnOk P w K mg base (L2.CX P w) k a fd ps (spF K ⟨mg, P, w⟩ n F) ∧ Binds K fd ps []
def eMeth (c m : Str) (F : FF) (a : EF) (ga : AF) : EF := fun ρ S => (a ρ S).bind fun d S1 => match insOf c d S1 with
  | some (ks, vs) => if (lookK m ks vs).isSome then .no else (ga ρ S1).bind fun ds S2 => (F (d :: ds) S2).noex
  | none => .no
theorem lookK_none {α β : Type} {f : Str} : ∀ {ks : List Str} {vs : List α} {ws : List β}, vs.length = ws.length → (lookK f ks ws).isSome = false → lookK f ks vs = none
  | [], _, _, _, _ => by simp [lookK]
  | _ :: _, [], _, _, _ => by simp [lookK]
  | k :: ks, v :: vs, w :: ws, h, e => by
    unfold lookK at e ⊢
    by_cases hk : k = f
    · rw [if_pos hk] at e; simp at e
    · rw [if_neg hk] at e ⊢
      exact lookK_none (by simpa using h) e
theorem de_meth {X : Cx} {W : WX} {o e : Expr} {es : List Expr} {c m : Str} {ps : List Str} {k j n : Nat} {F : FF} {fa : EF} {ga : AF} {pos apos : Pos} {pl : Sem Bool} (d : MDef X.prog X.w X.K X.mg X.base c m ps k (n + 1) F) (hr : Room j X.A) (hkj : k ≤ j) (ho : DE X W o fa) (ha : DA X W (e :: es) ga) (hl : aLen ga n)
    (hst : starEach (e :: es) X.env = (false, eval e X.env) :: starEach es X.env := by rfl) (hpl : (backTo pos (starEach es X.env)).any (·.1) = false := by rfl)
    (ht : eval (.Call (.Attribute o m apos) (e :: es) [] pos) X.env = (do
      let ov ← eval o X.env
      standAt apos.atName
      let (f, first) ← holding [ov] (getMethod ov m pl)
      callWith pos f first (backTo pos (starEach (e :: es) X.env)) (backToKw pos (keywordEach [] X.env))) := by rfl) : DE X W (.Call (.Attribute o m apos) (e :: es) [] pos) (eMeth c m F fa ga) := by
  obtain ⟨C, a, fd, gC, cl, hm, G, hb⟩ := d
  refine pe_wk (pe_meth (pl := pl) ho cl hm G (hr.mono hkj) hb .nil passL ha hst hpl ht) fun σ H Q ⟨φ, ρ, S, er, sr, p⟩ => (lf.bind er sr p).imp fun x H1 ⟨φ1, S1, d, e1, sr1, r1, p1⟩ => ?_
  split at p1
  · rename_i ks vs hi
    split at p1
    · exact p1.elim
    · rename_i hn
      obtain ⟨a', C', dx, us, rfl, g, t, kk, rs⟩ := insOf_ok sr1 r1 hi
      cases gC.symm.trans g
      refine ⟨a', dx, _, rfl, t, by rw [lookK_zip]; exact lookK_none rs.length (by simpa using hn), ?_⟩
      have h2 : lA X.K X.M W ga σ H1 fun vs H2 => (∃ φ2 S2 ds, Ext φ1 H1 φ2 H2 ∧ Sr X.K X.M φ2 S2 H2 ∧ Rps X.K X.M φ2 H2 vs ds ∧ post (Rp X.K X.M) X.K X.M W φ2 H2 σ Q (F (d :: ds) S2).noex ∧ ds.length = n) := by
        refine ⟨φ1, ρ, S1, er.mono e1, sr1, ?_⟩
        cases e2 : ga ρ S1 with
        | ok ds S2 =>
          rw [e2] at p1
          exact fun φ' H' y e' s r => ⟨φ', S2, ds, e', s, r, post.mono e' p1, hl _ _ _ _ e2⟩
        | ex c S2 => rw [e2] at p1; exact p1
        | no => rw [e2] at p1; exact p1
      refine lf.imp (fun vs H2 h => ?_) h2
      obtain ⟨φ2, S2, ds, e2, sr2, r2, p2, l2⟩ := h
      rw [List.append_nil]
      exact ⟨by simp [r2.length, l2], φ2, d :: ds, S2, .cons (r1.mono e2) r2, sr2, p2.noex _ _⟩
  · exact p1.elim
/-- what makes instances -/
def KDef (P : Program) (w : World) (K : PySem.W.Frag) (mg : Str → Option Value) (base : Heap) (c : Str) (ps : List Str) (k n : Nat) (F : FF) : Prop :=
  ∃ C a fd, mg c = some (.ref C) ∧ Mk K C a ∧ FnOk P w K mg base (L2.CX P w) k a fd ps (spF K ⟨mg, P, w⟩ n F) ∧ Binds K fd ps []
/-- C(..): eMakeS: an object of the store; eMake: by value -/
def makeR (c : Str) (F : FF) (ds : List D) (S : Sto) : Res D := match F (.ob S.length :: ds) (S ++ [.ins c [] []]) with
  | .ok .non S2 => .ok (.ob S.length) S2
  | _ => .no
def eMakeS (c : Str) (F : FF) (ga : AF) : EF := fun ρ S => (ga ρ S).bind fun ds S1 => makeR c F ds S1
def eMake (c : Str) (F : FF) (ga : AF) : EF := fun ρ S => (ga ρ S).bind fun ds S1 => dropR S1 (makeR c F ds S1)
theorem de_makeS {X : Cx} {W : WX} {e : Expr} {es : List Expr} {c : Str} {ps : List Str} {k j n : Nat} {F : FF} {ga : AF} {p pos : Pos} (d : KDef X.prog X.w X.K X.mg X.base c ps k (n + 1) F) (hr : Room j X.A) (hkj : k + 1 ≤ j) (hg : Gl X c) (ha : DA X W (e :: es) ga) (hl : aLen ga n)
    (hdb : (c == ("__debug__" : Str)) = false := by decide) (he : starEach (e :: es) X.env = (false, eval e X.env) :: starEach es X.env := by rfl) (hpl : (backTo pos (starEach es X.env)).any (·.1) = false := by rfl) :
    DE X W (.Call (.Name c p) (e :: es) [] pos) (eMakeS c F ga) := by
  obtain ⟨C, a, fd, gC, M, G, hb⟩ := d
  refine pe_wk (pe_make M G (hr.mono hkj) hg gC hb .nil passL ha hdb he hpl) fun σ H Q ⟨φ, ρ, S, er, sr, p⟩ => ?_
  have h2 : lA X.K X.M W ga σ H fun vs H2 => (∃ φ2 S2 ds, Ext φ H φ2 H2 ∧ Sr X.K X.M φ2 S2 H2 ∧ Rps X.K X.M φ2 H2 vs ds ∧ post (Rp X.K X.M) X.K X.M W φ2 H2 σ Q (makeR c F ds S2) ∧ ds.length = n) := by
    refine ⟨φ, ρ, S, er, sr, ?_⟩
    unfold eMakeS at p
    cases e2 : ga ρ S with
    | ok ds S2 =>
      rw [e2] at p
      exact fun φ' H' y e' s r => ⟨φ', S2, ds, e', s, r, post.mono e' p, hl _ _ _ _ e2⟩
    | ex c S2 => rw [e2] at p; exact p
    | no => rw [e2] at p; exact p
  refine lf.imp (fun vs H2 h x dx nx ndx ne => ?_) h2
  obtain ⟨φ2, S2, ds, e2, sr2, r2, p2, l2⟩ := h
  rw [List.append_nil]
  have x1 := Ext.new (φ := φ2) (o := .own x) ndx
  have s1 := sr2.new (o := .own x) ndx
  have nx1 : upd H2 dx (.own x) x = none := by rw [upd_ne (Ne.symm ne)]; exact nx
  have x2 := Ext.newSnoc (φ := φ2) (o := .ins C dx []) nx1
  have hs : Sr X.K X.M (φ2 ++ [x]) (S2 ++ [.ins c [] []]) (upd (upd H2 dx (.own x)) x (.ins C dx [])) :=
    s1.snoc nx1 ⟨C, dx, [], gC, upd_same, x2.im (sr2.im ndx), rfl, .nil⟩
  refine ⟨by simp [r2.length, l2], φ2 ++ [x], _, _, .cons (.ob (at_snoc s1 x)) ((r2.mono x1).mono x2), hs, ?_⟩
  unfold makeR at p2
  cases hF : F (.ob S2.length :: ds) (S2 ++ [.ins c [] []]) with
  | ok d S3 =>
    rw [hF] at p2
    cases d with
    | non =>
      intro φ' H' v e' s' r'
      cases r'
      exact ⟨rfl, p2 φ' H' _ ((x1.trans x2).trans e') s' (.ob (e'.pre _ _ (at_snoc s1 x)))⟩
    | _ => exact p2.elim
  | ex _ _ => rw [hF] at p2; exact p2.elim
  | no => rw [hF] at p2; exact p2.elim
theorem de_make {X : Cx} {W : WX} {e : Expr} {es : List Expr} {c : Str} {ps : List Str} {k j n : Nat} {F : FF} {ga : AF} {p pos : Pos} (d : KDef X.prog X.w X.K X.mg X.base c ps k (n + 1) F) (hr : Room j X.A) (hkj : k + 1 ≤ j) (hg : Gl X c) (ha : DA X W (e :: es) ga) (hl : aLen ga n)
    (hdb : (c == ("__debug__" : Str)) = false := by decide) (he : starEach (e :: es) X.env = (false, eval e X.env) :: starEach es X.env := by rfl) (hpl : (backTo pos (starEach es X.env)).any (·.1) = false := by rfl) :
    DE X W (.Call (.Name c p) (e :: es) [] pos) (eMake c F ga) := by
  obtain ⟨C, a, fd, gC, M, G, hb⟩ := d
  refine pe_wk (pe_make M G (hr.mono hkj) hg gC hb .nil passL ha hdb he hpl) fun σ H Q ⟨φ, ρ, S, er, sr, p⟩ => ?_
  have h2 : lA X.K X.M W ga σ H fun vs H2 => (∃ φ2 S2 ds, Ext φ H φ2 H2 ∧ Sr X.K X.M φ2 S2 H2 ∧ Rps X.K X.M φ2 H2 vs ds ∧ post (Rp X.K X.M) X.K X.M W φ2 H2 σ Q (makeR c F ds S2) ∧ ds.length = n) := by
    refine ⟨φ, ρ, S, er, sr, ?_⟩
    unfold eMake at p
    cases e2 : ga ρ S with
    | ok ds S2 =>
      rw [e2] at p
      exact fun φ' H' y e' s r => ⟨φ', S2, ds, e', s, r, post_drop s (post.mono e' p), hl _ _ _ _ e2⟩
    | ex c S2 => rw [e2] at p; exact p
    | no => rw [e2] at p; exact p
  refine lf.imp (fun vs H2 h x dx nx ndx ne => ?_) h2
  obtain ⟨φ2, S2, ds, e2, sr2, r2, p2, l2⟩ := h
  rw [List.append_nil]
  have x1 := Ext.new (φ := φ2) (o := .own x) ndx
  have s1 := sr2.new (o := .own x) ndx
  have nx1 : upd H2 dx (.own x) x = none := by rw [upd_ne (Ne.symm ne)]; exact nx
  have x2 := Ext.newSnoc (φ := φ2) (o := .ins C dx []) nx1
  have hs : Sr X.K X.M (φ2 ++ [x]) (S2 ++ [.ins c [] []]) (upd (upd H2 dx (.own x)) x (.ins C dx [])) :=
    s1.snoc nx1 ⟨C, dx, [], gC, upd_same, x2.im (sr2.im ndx), rfl, .nil⟩
  refine ⟨by simp [r2.length, l2], φ2 ++ [x], _, _, .cons (.ob (at_snoc s1 x)) ((r2.mono x1).mono x2), hs, ?_⟩
  unfold makeR at p2
  cases hF : F (.ob S2.length :: ds) (S2 ++ [.ins c [] []]) with
  | ok d S3 =>
    rw [hF] at p2
    cases d with
    | non =>
      intro φ' H' v e' s' r'
      cases r'
      exact ⟨rfl, p2 φ' H' _ ((x1.trans x2).trans e') s' (.ob (e'.pre _ _ (at_snoc s1 x)))⟩
    | _ => exact p2.elim
  | ex _ _ => rw [hF] at p2; exact p2.elim
  | no => rw [hF] at p2; exact p2.elim
end DV
set_option Elab.async false
set_option linter.all false
set_option maxRecDepth 100000
namespace DV
open PySem PySem.Spec PyProof.Rows L2
/-! ### defs called where no repr is under way (G), and where an exception may be handled (Q) -/
def RoomG (k : Nat) (A : Around) : Prop := Room k A ∧ A.guards = some []
theorem RoomG.mono {j k : Nat} {A : Around} (r : RoomG k A) (h : j ≤ k) : RoomG j A := ⟨r.1.mono h, r.2⟩
theorem RoomG.deeper {k : Nat} {A : Around} (r : RoomG (k + 1) A) (env : Env) : RoomG k (A.deeper env) := ⟨r.1.deeper env, r.2⟩
/-- a def that keeps its promise wherever Φ says so of what is around -/
structure FnW (Φ : Around → Prop) (P : Program) (w : World) (K : PySem.W.Frag) (mg : Str → Option Value) (base : Heap) (CX : CXT) (f : Addr) (fd : FuncData) (ps : List Str) (sp : Sp) : Prop where
  len : ∀ vs H Q E, sp vs H Q E → vs.length = ps.length
  run : ∀ (A : Around) (outer : List Env) (s : Shared) (H : Hp) (args : Args) (us : List Value) (vs : List V) (Q : VK) (E : XK), Φ A → Env0 P w K mg base A outer s H → BindsTo s fd args (ps.zip us) → Vals vs us → sp vs H Q E →
    codeAny (model P w) A (.call (.ref f) args) (CR CX outer P w H s Q E) s
theorem FnW.of {Φ : Around → Prop} {P : Program} {w : World} {K : PySem.W.Frag} {mg : Str → Option Value} {base : Heap} {CX : CXT} {k : Nat} {f : Addr} {fd : FuncData} {ps : List Str} {sp : Sp} (F : FnOk P w K mg base CX k f fd ps sp) (h : ∀ A, Φ A → Room k A) :
    FnW Φ P w K mg base CX f fd ps sp := ⟨F.len, fun A outer s H args us vs Q E z => F.run A outer s H args us vs Q E (h A z)⟩
theorem FnW.mono {Φ Ψ : Around → Prop} {P : Program} {w : World} {K : PySem.W.Frag} {mg : Str → Option Value} {base : Heap} {CX : CXT} {f : Addr} {fd : FuncData} {ps : List Str} {sp : Sp} (F : FnW Φ P w K mg base CX f fd ps sp) (h : ∀ A, Ψ A → Φ A) :
    FnW Ψ P w K mg base CX f fd ps sp := ⟨F.len, fun A outer s H args us vs Q E z => F.run A outer s H args us vs Q E (h A z)⟩
theorem FnW.imp {Φ : Around → Prop} {P : Program} {w : World} {K : PySem.W.Frag} {mg : Str → Option Value} {base : Heap} {CX : CXT} {f : Addr} {fd : FuncData} {ps : List Str} {sp sp' : Sp} (F : FnW Φ P w K mg base CX f fd ps sp) (h : ∀ vs H Q E, sp' vs H Q E → sp vs H Q E) :
    FnW Φ P w K mg base CX f fd ps sp' := ⟨fun vs H Q E q => F.len vs H Q E (h _ _ _ _ q), fun A outer s H args us vs Q E z he hb hv hs => F.run A outer s H args us vs Q E z he hb hv (h _ _ _ _ hs)⟩
theorem FnW.ok {P : Program} {w : World} {K : PySem.W.Frag} {mg : Str → Option Value} {base : Heap} {CX : CXT} {k : Nat} {f : Addr} {fd : FuncData} {ps : List Str} {sp : Sp} (F : FnW (Room k) P w K mg base CX f fd ps sp) : FnOk P w K mg base CX k f fd ps sp := ⟨F.len, F.run⟩
section
variable {CX : CXT} {P : Program} {w : World} {K : PySem.W.Frag} {mg : Str → Option Value} {base : Heap} {N ps : List Str} {qual : Str} {scope : Scope} {f : Addr} {cd : Value} {A : Around} {outer : List Env} {s s1 : Shared} {H : Hp} {E : XK} {us : List Value} {vs : List V}
/-- the context of a body that says nothing of what is handled -/
abbrev cxQ (CX : CXT) (P : Program) (w : World) (K : PySem.W.Frag) (mg : Str → Option Value) (base : Heap) (N : List Str) (qual : Str) (scope : Scope) (f : Addr) (cd : Value) (A : Around) (outer : List Env) (s : Shared) (H : Hp) (E : XK) : Cx :=
  { cxOf CX P w K mg base N qual scope f cd A outer s H E with calm := false }
theorem inv_startQ (S : FnScope N ps scope) (e0 : Env0 P w K mg base A outer s H) (hl : vs.length = ps.length) (r : Vals vs us)
    (x : InCallC s s.heap.objs.size (bindL (envOfC qual scope s.heap.objs.size f cd).kindOf (ps.zip us) fun _ => none) (cellsFrom (s.heap.objs.size + 1) scope.names []) (bindC (envOfC qual scope s.heap.objs.size f cd).kindOf (ps.zip us) fun _ => none) s1) :
    Inv (cxQ CX P w K mg base N qual scope f cd A outer s H E) [] (L2.start N vs) H s1 := by
  have e1 : Env0 P w K mg base { A with handled := none } outer s H := ⟨e0.frames, e0.mod, e0.bs, e0.bsz, e0.funs, e0.frf, e0.hok, e0.bare⟩
  have I := inv_start (CX := CX) (E := E) (qual := qual) (f := f) (cd := cd) S (A := { A with handled := none }) rfl e1 hl r x
  have o := I.ok
  exact ⟨⟨o.mod, o.kind, o.glob, o.blt, o.above, o.inj, o.has, o.cab, fun z => Bool.noConfusion (show false = true from z), o.frames, o.stk, o.exf, o.bs, o.bsz, o.noex, o.exfs, o.funs, o.frf⟩, I.os, I.bare, I.base, I.loc, I.cell, I.free, I.freeC, I.pin, I.hok, I.len⟩
/-- a body's walk, in either context, is a call's -/
theorem call_body {X : Cx} {body : List Stmt} {t : TS} {Q : VK} (hX : X.stack = envOfC qual scope s.heap.objs.size f cd :: outer) (ho : X.outer = outer) (hs0 : X.s_0 = s) (hH0 : X.H_0 = H) (hex : X.ex = []) (hp : X.prog = P) (hw : X.w = w) (hA : X.A = A.deeper (envOfC qual scope s.heap.objs.size f cd))
    (henv : X.env = envOfC qual scope s.heap.objs.size f cd) (ht : PSs X body t) {σ : L2.St} (I : Inv X [] σ H s1) (hq : t { nx := fun _ H' => Q .non H', rt := Q } σ H)
    {E' : Value → Shared → Prop} (hxe : X.xe = E') {R : Flow → Shared → Prop} (hret : ∀ u s', CE outer P w H s Q u s' → R (.ret u) s') (hnx : ∀ s', CE outer P w H s Q .none s' → R .next s') :
    wpAny (model P w) (A.deeper (envOfC qual scope s.heap.objs.size f cd)) (execs body (envOfC qual scope s.heap.objs.size f cd)) R E' s1 := by
  subst hp hw hs0 hH0 ho hxe
  rw [← hA, ← henv]
  refine wpAny_mono (ht.run [] s1 σ _ _ I hq) (fun fl s' z => ?_) fun _ _ z => z
  have base : ∀ {σ' : L2.St} {H' : Hp}, Inv X [] σ' H' s' → Un (frs X.outer) [] X.H_0 H' X.s_0.heap s'.heap := fun {σ' H'} J => by have := J.base; rw [hex] at this; exact this
  cases fl with
  | ret u => exact let ⟨v, _, H', J, rv, q⟩ := z; hret u s' ⟨v, H', J.os, J.bare, base J, J.hok, rv, q⟩
  | next => exact let ⟨_, H', J, q⟩ := z; hnx s' ⟨.non, H', J.os, J.bare, base J, J.hok, rfl, q⟩
  | brk => exact let ⟨_, _, _, q⟩ := z; q.elim
  | cont => exact let ⟨_, _, _, q⟩ := z; q.elim
end
section
variable {CX : CXT} {P : Program} {w : World} {K : PySem.W.Frag} {mg : Str → Option Value} {base : Heap} {N ps : List Str} {name qual : Str} {scope : Scope} {f : Addr} {params : Arguments} {body : List Stmt} {dV kV doc pm cdv ct oc : Value} {an od : Option Addr} {osl : Array (Option Value)} {sp : Sp} {Φ Ψ : Around → Prop} {cx : Around → List Env → Shared → Hp → XK → Cx}
/-- what a context must be, so that a body's walk in it is a call's -/
structure CxFor (CX : CXT) (P : Program) (w : World) (K : PySem.W.Frag) (mg : Str → Option Value) (base : Heap) (N : List Str) (qual : Str) (scope : Scope) (f : Addr) (cd : Value) (Ψ : Around → Prop) (cx : Around → List Env → Shared → Hp → XK → Cx) : Prop where
  like : ∀ A outer s H E, cx A outer s H E = { cxOf CX P w K mg base N qual scope f cd A outer s H E with calm := (cx A outer s H E).calm }
  start : ∀ (A : Around) (outer : List Env) (s s1 : Shared) (H : Hp) (E : XK) (ps : List Str) (us : List Value) (vs : List V), Ψ (A.deeper (envOfC qual scope s.heap.objs.size f cd)) → FnScope N ps scope → Env0 P w K mg base A outer s H → vs.length = ps.length → Vals vs us →
    InCallC s s.heap.objs.size (bindL (envOfC qual scope s.heap.objs.size f cd).kindOf (ps.zip us) fun _ => none) (cellsFrom (s.heap.objs.size + 1) scope.names []) (bindC (envOfC qual scope s.heap.objs.size f cd).kindOf (ps.zip us) fun _ => none) s1 →
    Inv (cx A outer s H E) [] (L2.start N vs) H s1
theorem fnW_of (C : CxFor CX P w K mg base N qual scope f cdv Ψ cx) (lk : K.lookup f = some ⟨oc, od, .func (PySem.W.fnOf name qual params body scope dV kV doc pm an cdv ct), osl⟩) (hcd : PySem.W.codeIn K cdv qual = true) (S : FnScope N ps scope)
    (hd : ∀ A, Φ A → A.depth < recursionLimit) (hΨ : ∀ A env, Φ A → Ψ (A.deeper env)) (len : ∀ vs H Q E, sp vs H Q E → vs.length = ps.length)
    (hbody : ∀ (A : Around) (outer : List Env) (s : Shared) (H : Hp) (vs : List V) (Q : VK) (E : XK), Ψ (A.deeper (envOfC qual scope s.heap.objs.size f cdv)) → sp vs H Q E →
      ∃ t, PSs (cx A outer s H E) body t ∧ t { nx := fun _ H' => Q .non H', rt := Q } (L2.start N vs) H) :
    FnW Φ P w K mg base CX f (PySem.W.fnOf name qual params body scope dV kV doc pm an cdv ct) ps sp := by
  refine ⟨len, fun A outer s H args us vs Q E hr e0 hb r hsp => ?_⟩
  have kin : K.In s.heap := e0.mod.kin.keeps fun b o e => (e0.bs b o e).1
  refine codeAny_call_function (hd A hr) (kin _ _ lk) rfl S.co S.gen rfl (PySem.W.codeRec_of kin hcd) (hb _ _ _ _ ?_)
  refine wpAny_newFunctionEnv_cells S.kind (fun y hy => ?_) fun env he s1 x => ?_
  · rcases S.par y.1 (List.of_mem_zip (show (y.1, y.2) ∈ ps.zip us from hy)).1 with q | q
    · exact .inl q
    · exact .inr ⟨q, PySem.W.cellsFrom_some _ _ _ (.inl q)⟩
  subst he
  have kl : s.heap.NoLimit := e0.mod.nolimit.keeps fun b o e => (e0.bs b o e).1
  refine ⟨kl.keeps x.toInCall.keep, codeAny_func ?_⟩
  have hψ := hΨ A (envOfC qual scope s.heap.objs.size f cdv) hr
  obtain ⟨t, ht, hq⟩ := hbody A outer s H vs Q E hψ hsp
  have I := C.start A outer s s1 H E ps us vs hψ S e0 (len _ _ _ _ hsp) r x
  rw [C.like] at ht I
  exact call_body (X := { cxOf CX P w K mg base N qual scope f cdv A outer s H E with calm := (cx A outer s H E).calm }) rfl rfl rfl rfl rfl rfl rfl rfl rfl ht I hq rfl (fun u s' z => z) fun s' z => z
theorem cxFor_ok : CxFor CX P w K mg base N qual scope f cdv (fun A => A.handled = none) (fun A outer s H E => cxOf CX P w K mg base N qual scope f cdv A outer s H E) :=
  ⟨fun _ _ _ _ _ => rfl, fun A outer s s1 H E ps us vs h S e0 hl r x => inv_start S h e0 hl r x⟩
theorem cxFor_q : CxFor CX P w K mg base N qual scope f cdv (fun _ => True) (fun A outer s H E => cxQ CX P w K mg base N qual scope f cdv A outer s H E) :=
  ⟨fun _ _ _ _ _ => rfl, fun A outer s s1 H E ps us vs _ S e0 hl r x => inv_startQ S e0 hl r x⟩
theorem CxFor.weak {cd : Value} (C : CxFor CX P w K mg base N qual scope f cd Ψ cx) {Ψ' : Around → Prop} (h : ∀ A, Ψ' A → Ψ A) : CxFor CX P w K mg base N qual scope f cd Ψ' cx :=
  ⟨C.like, fun A outer s s1 H E ps us vs z => C.start A outer s s1 H E ps us vs (h _ z)⟩
end
/-! ### calls of such defs -/
section
variable {X : Cx} {CX : CXT} {Φ : Around → Prop} {f : Addr} {fd : FuncData} {ps : List Str} {sp : Sp} {E : L2.St → XK} {x : Str} {p pos : Pos} {e : Expr} {es : List Expr} {t : TA}
theorem run_fnW {pins : List (Addr × Obj)} {σ : L2.St} {H : Hp} {s : Shared} {Q : VK} {us : List Value} {vs : List V} (F : FnW Φ X.prog X.w X.K X.mg X.base CX f fd ps sp) (hr : Φ X.A) (hb : Binds X.K fd ps []) (hx : PassesAt CX X σ (E σ))
    (I : Inv X pins σ H s) (r : Vals vs us) (h : sp vs H Q (E σ)) : wpAny (model X.prog X.w) X.A (call (.ref f) us) (EP X pins σ Q) X.xe s := by
  have b := hb s us I.kIn (by rw [List.append_nil, ← r.length]; exact F.len _ _ _ _ h)
  rw [List.append_nil] at b
  refine wpAny_call (codeAny_mono (F.run X.A X.stack s H ⟨us, []⟩ us vs Q (E σ) hr I.env0 b r h) fun z s' hq => ?_)
  rcases z with e | fl
  · exact hx pins H s e s' I hq
  · cases fl <;> first | exact I.after hq | exact hq.elim
theorem pe_callW (F : FnW Φ X.prog X.w X.K X.mg X.base CX f fd ps sp) (hr : Φ X.A) (hg : Gl X x) (hm : X.mg x = some (.ref f)) (hk : PySem.W.keepIn X.K (.ref f) = true) (hb : Binds X.K fd ps []) (hx : ∀ σ, PassesAt CX X σ (E σ))
    (ha : PA X (e :: es) t) (hdb : (x == ("__debug__" : Str)) = false := by decide) (he : starEach (e :: es) X.env = (false, eval e X.env) :: starEach es X.env := by rfl) (hpl : (backTo pos (starEach es X.env)).any (·.1) = false := by rfl) :
    PE X (.Call (.Name x p) (e :: es) [] pos) (tCallS sp E t) := by
  constructor
  intro pins s σ H Q I h
  have args := thn (ha.run pos pins s σ H _ I h) fun us s1 (z : AP X pins σ (fun vs H1 => sp vs H1 Q (E σ)) us s1) => let ⟨_, _, I1, r, q⟩ := z; (⟨I1.kIn, run_fnW F hr hb (hx σ) I1 r q⟩ : X.K.In s1.heap ∧ wpAny (model X.prog X.w) X.A (call (.ref f) us) (EP X pins σ Q) X.xe s1)
  exact wpAny_Call_Name_kw (ld_glob I hg hm (PySem.W.callWith_K (h₀ := X.base) I.ok.mod.kin hk args he hpl) hdb)
end
end DV
set_option Elab.async false
set_option linter.all false
set_option maxRecDepth 100000
namespace DV
open PySem PySem.Spec PyProof.Rows L2
/-! ### the head, for a law whose promise holds where no repr is under way -/
section
variable {P : Program} {w : World} {K : PySem.W.Frag} {mg mb : Str → Option Value} {CX : CXT} {fa a : Addr} {fd : FuncData} {x : Str} {sp : Sp} {s : Shared} {vs : List Value} {ns : List Int} {Φ : Around → Prop} {H : Hp}
/-- what may be tracked when the law is called: the script, if it is not one of the module's own objects -/
structure Start (K : PySem.W.Frag) (s : Shared) (a : Addr) (H : Hp) : Prop where
  only : Only H
  here : ∀ b, H b ≠ none → b = a ∧ K.lookup a = none
theorem Start.untracked (S : Start K s a H) (ha : s.heap.get? a = some { cls := .type "list", data := .seq vs.toArray }) {b : Addr} (h : (∃ o, K.lookup b = some o) ∨ ∃ o es ep, s.heap.get? b = some o ∧ o.data = .dict es ep) : H b = none := by
  by_cases z : H b = none
  · exact z
  · obtain ⟨rfl, hk⟩ := S.here b z
    rcases h with ⟨o, e⟩ | ⟨o, es, ep, e, d⟩
    · rw [hk] at e; exact nomatch e
    · rw [ha] at e; cases e; exact nomatch d
theorem Start.mod (S : Start K s a H) (ha : s.heap.get? a = some { cls := .type "list", data := .seq vs.toArray }) (KX : K.In s.heap) (hns : s.heap.Ns mainGlobals mg) (hb : s.heap.Ns builtinsNs mb) (hbb : ∀ x : Str, x ≠ "__name__" → mb x = bootBuiltins x) (hlim : s.heap.NoLimit) :
    Mod K mg (hidT s.heap H) := by
  have keep : ∀ {b : Addr} {m : Str → Option Value}, s.heap.Ns b m → (hidT s.heap H).Ns b m := by
    rintro b m ⟨o, es, ep, e, d, r⟩
    exact ⟨o, es, ep, hidT_get e (S.untracked ha (.inr ⟨o, es, ep, e, d⟩)), d, r⟩
  obtain ⟨mc, l1, l2⟩ := hlim
  exact ⟨fun b o e => hidT_get (KX b o e) (S.untracked ha (.inl ⟨o, e⟩)), keep hns, ⟨mb, keep hb, hbb⟩, mc, keep l1, l2⟩
theorem Start.run (S : Start K s a H) (ha : s.heap.get? a = some { cls := .type "list", data := .seq vs.toArray }) (KX : K.In s.heap) (hns : s.heap.Ns mainGlobals mg) (hb : s.heap.Ns builtinsNs mb) (hbb : ∀ x : Str, x ≠ "__name__" → mb x = bootBuiltins x) (hlim : s.heap.NoLimit) (hg : s.gens = #[]) (hok : HOk P w H s.heap)
    (hr : Φ callerA) (F : ∀ base : Heap, K.In base → base.Ns mainGlobals mg → FnW Φ P w K mg base CX fa fd [x] sp) (hbind : ∀ (s : Shared) (u : Value), BindsTo s fd ⟨[u], []⟩ [(x, u)]) (hsp : sp [.ref a] H (fun v _ => v = .bl true) fun _ _ _ => False)
    (hCX : ∀ H e s', CX [] H s (fun _ _ _ => False) e s' → False) : codeAny (model P w) callerA (.call (.ref fa) ⟨[.ref a], []⟩) (fun r s' => r = .ok (.ret (.bool true)) ∧ OldK s.heap s'.heap ∧ s'.os = s.os ∧ AllBare s'.gens) s := by
  have M := S.mod ha KX hns hb hbb hlim
  have e0 : Env0 P w K mg (hidT s.heap H) callerA [] s H := ⟨rfl, M, fun b o e => of_hidT e, Nat.le_of_eq (hidT_size _ _), trivial, fun b z => absurd z List.not_mem_nil, hok, .of_eq hg⟩
  refine codeAny_mono ((F _ M.kin M.glob).run callerA [] s H ⟨[.ref a], []⟩ [.ref a] [.ref a] _ _ hr e0 (hbind s (.ref a)) (.cons rfl .nil) hsp) fun r s' z => ?_
  rcases r with e | fl
  · exact (hCX H e s' z).elim
  · cases fl with
    | ret u =>
      obtain ⟨v, G, os, bare, un, ok', rv, q⟩ := z
      rw [show v = .bl true from q] at rv
      cases (show u = Value.bool true from rv)
      refine ⟨rfl, OldK.of_keep fun b o e => ?_, os, bare⟩
      rcases S.only b with z | ⟨ob, xs, z⟩
      · exact un.keep b o e z (fun m => absurd m List.not_mem_nil) (fun m => absurd m List.not_mem_nil)
      · have g1 := (hok b _ z).1
        have g2 := (ok' b _ (un.frzs b ob _ z)).1
        rw [e] at g1; cases g1; exact g2
    | _ => exact False.elim z
theorem law_callW (KX : K.In s.heap) (hns : s.heap.Ns mainGlobals mg) (hb : s.heap.Ns builtinsNs mb) (hbb : ∀ x : Str, x ≠ "__name__" → mb x = bootBuiltins x) (hlim : s.heap.NoLimit) (hg : s.gens = #[]) (ha : s.heap.get? a = some { cls := .type "list", data := .seq vs.toArray })
    (hi : IntsAre vs ns) (hl : ns.length ≤ sizeLine) (hr : Φ callerA) (F : ∀ base : Heap, K.In base → base.Ns mainGlobals mg → FnW Φ P w K mg base CX fa fd [x] sp) (hbind : ∀ (s : Shared) (u : Value), BindsTo s fd ⟨[u], []⟩ [(x, u)])
    (hsp : ∀ H : Hp, Only H → SqL K H a (ns.map V.int) → sp [.ref a] H (fun v _ => v = .bl true) fun _ _ _ => False) (hCX : ∀ H e s', CX [] H s (fun _ _ _ => False) e s' → False) :
    codeAny (model P w) callerA (.call (.ref fa) ⟨[.ref a], []⟩) (fun r s' => r = .ok (.ret (.bool true)) ∧ OldK s.heap s'.heap ∧ s'.os = s.os ∧ AllBare s'.gens) s := by
  have rv := vals_ints hi
  by_cases hk : K.lookup a = none
  · let G : Hp := fun b => if b = a then some (.frz { cls := .type "list", data := .seq vs.toArray } (.lst (ns.map V.int))) else none
    have on : Only G := fun b => by
      by_cases e : b = a
      · exact .inr ⟨_, _, if_pos e⟩
      · exact .inl (if_neg e)
    have S : Start K s a G := ⟨on, fun b z => by
      by_cases e : b = a
      · exact ⟨e, hk⟩
      · exact absurd (if_neg e) z⟩
    refine S.run ha KX hns hb hbb hlim hg (fun b u z => ?_) hr F hbind (hsp G on (.inl (.inr ⟨_, if_pos rfl⟩))) hCX
    by_cases e : b = a
    · subst e
      cases (if_pos rfl).symm.trans z
      exact ⟨ha, by rw [List.length_map]; exact hl, vs, _, rv, ha⟩
    · exact nomatch (if_neg e).symm.trans z
  · obtain ⟨o, ho⟩ := Option.ne_none_iff_exists'.mp hk
    have e := KX a o ho
    rw [ha] at e; cases e
    have on : Only fun _ => none := fun _ => .inl rfl
    exact Start.run (H := fun _ => none) ⟨on, fun b z => absurd rfl z⟩ ha KX hns hb hbb hlim hg (fun b u z => nomatch z) hr F hbind
      (hsp _ on (.inr ⟨_, vs.toArray, _, ho, rfl, rfl, rfl, by rw [List.size_toArray, ← rv.length, List.length_map]; exact hl, by simpa using rv⟩)) hCX
theorem walk_ofW {l : PySem.W.OpenLaw} {n : Nat} {q : Program} {loose : List Str} {XP : (Str → Option Value) → Heap → Prop} {YP : World → Heap → Prop} {d : DefRec} {K : Params → PySem.W.Frag} {CX : World → CXT} {sp : World → Sp} {x : Str} {Φ : Around → Prop}
    (hn : l.most = some n) (hn2 : n ≤ sizeLine) (hdf : d.params.defaults = []) (hr : Φ callerA) (hY : ∀ (w : World) (h : Heap), YP w h → (K w.params).In h)
    (F : ∀ (w : World) (mg : Str → Option Value) (fa : Addr) (h : Heap), (K w.params).In h → h.Ns mainGlobals mg → mg d.name = some (.ref fa) → ∃ fd : FuncData, (∀ (s : Shared) (u : Value), BindsTo s fd ⟨[u], []⟩ [(x, u)]) ∧
      ∀ base : Heap, (K w.params).In base → base.Ns mainGlobals mg → FnW Φ l.prog w (K w.params) mg base (CX w) fa fd [x] (sp w))
    (hsp : ∀ (w : World) (H : Hp) (a : Addr) (ns : List Int), ns.length ≤ n → Only H → SqL (K w.params) H a (ns.map V.int) → sp w [.ref a] H (fun v _ => v = .bl true) fun _ _ _ => False)
    (hCX : ∀ (w : World) (H : Hp) (s : Shared) (e : Value) (s' : Shared), CX w [] H s (fun _ _ _ => False) e s' → False) : PySem.W.WalkO q loose XP YP l.row.toRowW d [] (fun f vs => PySem.call f vs) :=
  Att.attach_call hn hdf fun w s0 s1 mg mb fa o pm cd doc a vs ns G Y ho hd hcd hm hobj hints hlen hg => by
    have KX := hY w _ Y
    obtain ⟨fd, hb, hF⟩ := F w mg fa _ KX G.T.g hm
    exact law_callW KX G.T.g G.T.b G.T.builtins G.T.nolimit hg hobj hints (Nat.le_trans hlen hn2) hr hF hb (fun H hO hS => hsp w H a ns hlen hO hS) fun H e s' => hCX w H s1 e s'
end
end DV
set_option Elab.async false
set_option linter.all false
set_option maxRecDepth 100000
namespace DV
open PySem PySem.Spec PyProof.Rows L2
/-! ### repr -/
abbrev rRepr (K : PySem.W.Frag) : List V → Hp → VK → Prop := fun xs H Q => ∃ v d, xs = [v] ∧ Dp K H v d ∧ d.showable = true ∧ d.hasDict = false ∧ d.depth ≤ 64 ∧ d.shown.length ≤ sizeLine ∧ Q (.str d.shown) H
theorem call_reprD {X : Cx} (hg : X.A.guards = some []) (hu : X.A.units + 128 < cLine) : CallR X (.builtin "repr") (rRepr X.K) := by
  rintro pins s σ H xs us Q I r ⟨v, d, rfl, hd, hs, hn, hdp, hz, q⟩
  obtain ⟨u, rfl, ru⟩ := vals1 r
  cases hd with
  | non => cases (show u = Value.none from ru); exact PySem.P.repr_of_none ⟨.str _, H, I.tok _, ⟨_, rfl⟩, by simpa only [PyData.shown] using q⟩
  | bl b => cases (show u = Value.bool b from ru); exact PySem.P.repr_of_bool ⟨.str _, H, I.tok _, ⟨_, rfl⟩, by simpa only [PyData.shown] using q⟩
  | int i =>
    obtain ⟨t, rfl⟩ := (show ∃ t, u = Value.int i t from ru)
    exact PySem.P.repr_of_int (by simpa [PyData.showable] using hs) ⟨.str _, H, I.tok _, ⟨_, rfl⟩, by simpa only [PyData.shown] using q⟩
  | str x =>
    obtain ⟨t, rfl⟩ := (show ∃ t, u = Value.str x t from ru)
    exact PySem.P.repr_of_str ⟨.str _, H, I.tok _, ⟨_, rfl⟩, by simpa only [PyData.shown] using q⟩ (by simpa only [PyData.shown] using hz)
  | @lst a ys ds h1 h2 =>
    cases (show u = Value.ref a from ru)
    obtain ⟨as, rd⟩ := Dp.reads I _ _ _ (.lst h1 h2) ru
    exact repr_of_reads' rd hs (PyData.noDict_hsm hn) hg (by omega) (fun _ _ e => e) (fun h' u tk hk => ⟨.str _, H, I.kept (t' := tk) hk, ⟨u, rfl⟩, q⟩) hz
  | @tup a ys ds h1 h2 =>
    cases (show u = Value.ref a from ru)
    obtain ⟨as, rd⟩ := Dp.reads I _ _ _ (.tup h1 h2) ru
    exact repr_of_reads' rd hs (PyData.noDict_hsm hn) hg (by omega) (fun _ _ e => e) (fun h' u tk hk => ⟨.str _, H, I.kept (t' := tk) hk, ⟨u, rfl⟩, q⟩) hz
def reprOk (e : PyData) : Bool := gd (e.showable = true ∧ e.hasDict = false ∧ e.depth ≤ 64 ∧ e.shown.length ≤ 1000000)
def cRepr : FF
  | [d], S => match pyOf 40 S d with
    | some e => if reprOk e then .ok (.str e.shown) S else .no
    | none => .no
  | _, _ => .no
theorem cRepr_ok {K : PySem.W.Frag} {mg : MG} : Cal K mg (rRepr K) cRepr := fun W φ S H σ xs ds Q s r p => by
  unfold cRepr at p
  split at p
  · split at p
    · rename_i e he
      split at p
      · rename_i hz
        cases r with
        | cons a b =>
          cases b
          obtain ⟨z1, z2, z3, z4⟩ := of_gd hz
          exact ⟨_, e, rfl, pyOf_ok s 40 _ _ _ a he, z1, z2, z3, by rw [sizeLine_eq]; omega, p φ H _ Ext.rfl' s (.str _)⟩
      · exact p.elim
    · exact p.elim
  · exact p.elim
end DV
set_option Elab.async false
set_option linter.all false
set_option maxRecDepth 100000
namespace DV
open PySem PySem.Spec PyProof.Rows L2 L2H
/-- a def that does what F says wherever Φ says so of what is around -/
def DefW (Φ : Around → Prop) (P : Program) (w : World) (K : PySem.W.Frag) (mg : Str → Option Value) (base : Heap) (x : Str) (ps : List Str) (n : Nat) (F : FF) : Prop :=
  ∃ a fd, FnW Φ P w K mg base (L2.CX P w) a fd ps (spF K ⟨mg, P, w⟩ n F) ∧ mg x = some (.ref a) ∧ PySem.W.keepIn K (.ref a) = true ∧ Binds K fd ps []
section
variable {P : Program} {w : World} {K : PySem.W.Frag} {mg : Str → Option Value} {base : Heap} {x : Str} {st : Stmt} {N ps : List Str} {k n : Nat} {b : SF} {F : FF} {Φ Ψ : Around → Prop}
theorem Def.weak (d : Def P w K mg base x ps k n F) (h : ∀ A, Φ A → Room k A) : DefW Φ P w K mg base x ps n F := let ⟨a, fd, G, r⟩ := d; ⟨a, fd, .of G h, r⟩
theorem DefW.mono (d : DefW Φ P w K mg base x ps n F) (h : ∀ A, Ψ A → Φ A) : DefW Ψ P w K mg base x ps n F := let ⟨a, fd, G, r⟩ := d; ⟨a, fd, G.mono h, r⟩
theorem DefW.def (d : DefW (RoomH k) P w K mg base x ps n F) : Def P w K mg base x ps k n F := let ⟨a, fd, G, r⟩ := d; ⟨a, fd, (G.mono fun _ z => roomH_of z).ok, r⟩
theorem body_walk {X : Cx} {vs : List V} {H : Hp} {Q : VK} {E : XK} (hK : X.K = K) {M : MG} (hm : X.M = M) (h : DSs X (fun cls d _ H => E cls d H) (defBody st) b) (z : spF K M ps.length (runK N.length ps.length b) vs H Q E) :
    ∃ t, PSs X (defBody st) t ∧ t { nx := fun _ H' => Q .non H', rt := Q } (L2.start N vs) H := by
  subst hK hm
  obtain ⟨hl, φ, ds, S0, rs, sr, p⟩ := z
  refine ⟨_, h, φ, _, S0, start_er rs hl, sr, ?_⟩
  unfold runK at p
  cases e : b (ds.map some ++ List.replicate (N.length - ps.length) none) S0 with
  | rt d S' => rw [e] at p; exact fun φ' H' v e' s' r' => p φ' H' v e' s' r'
  | nx ρ S' => rw [e] at p; exact fun φ' σ' H' e' s' r' => p φ' H' .non e' s' .non
  | ex c ρ S' =>
    rw [e] at p
    obtain ⟨C, e1, h⟩ := p
    exact ⟨C, e1, fun φ' σ' H' e' s' _ => h φ' H' e' s'⟩
  | bk _ _ => rw [e] at p; exact p.elim
  | ct _ _ => rw [e] at p; exact p.elim
  | no => rw [e] at p; exact p.elim
theorem fnG_ok {f : Addr} {fd : FuncData} {qual : Str} (F : Fun K x qual st f fd) (S : FnScope N ps (defScope st))
    (hb : ∀ (cdv : Value) (A : Around) (outer : List Env) (s : Shared) (H : Hp) (E : XK), RoomG k (A.deeper (envOfC qual (defScope st) s.heap.objs.size f cdv)) →
      DSs (cxOf (L2.CX P w) P w K mg base N qual (defScope st) f cdv A outer s H E) (fun cls d _ H => E cls d H) (defBody st) b) :
    FnW (RoomG (k + 1)) P w K mg base (L2.CX P w) f fd ps (spF K ⟨mg, P, w⟩ ps.length (runF N.length ps.length b)) := by
  obtain ⟨oc, od, kV, doc, pm, an, cdv, ct, osl, rfl, lk, hcd⟩ := F.ex
  refine FnW.imp (fnW_of (Ψ := RoomG k) ((cxFor_ok).weak fun A z => z.1.hd) lk hcd S (fun A z => z.1.depth) (fun A env z => z.deeper env) (fun vs H Q E h => h.1) fun A outer s H vs Q E hr z => body_walk rfl rfl (hb cdv A outer s H E hr) z) spF_drop
theorem fnQ_ok {f : Addr} {fd : FuncData} {qual : Str} (F : Fun K x qual st f fd) (S : FnScope N ps (defScope st))
    (hb : ∀ (cdv : Value) (A : Around) (outer : List Env) (s : Shared) (H : Hp) (E : XK), RoomH k (A.deeper (envOfC qual (defScope st) s.heap.objs.size f cdv)) →
      DSs (cxQ (L2.CX P w) P w K mg base N qual (defScope st) f cdv A outer s H E) (fun cls d _ H => E cls d H) (defBody st) b) :
    FnW (RoomH (k + 1)) P w K mg base (L2.CX P w) f fd ps (spF K ⟨mg, P, w⟩ ps.length (runF N.length ps.length b)) := by
  obtain ⟨oc, od, kV, doc, pm, an, cdv, ct, osl, rfl, lk, hcd⟩ := F.ex
  refine FnW.imp (fnW_of (Ψ := RoomH k) ((cxFor_q).weak fun A z => trivial) lk hcd S (fun A z => z.depth) (fun A env z => z.deeper env) (fun vs H Q E h => h.1) fun A outer s H vs Q E hr z => body_walk rfl rfl (hb cdv A outer s H E hr) z) spF_drop
theorem defG_ok (A : FnAt K mg x st ps) (S : FnScope N ps (defScope st))
    (hb : ∀ (f : Addr) (cdv : Value) (A : Around) (outer : List Env) (s : Shared) (H : Hp) (E : XK), RoomG k (A.deeper (envOfC x (defScope st) s.heap.objs.size f cdv)) →
      DSs (cxOf (L2.CX P w) P w K mg base N x (defScope st) f cdv A outer s H E) (fun cls d _ H => E cls d H) (defBody st) b) : DefW (RoomG (k + 1)) P w K mg base x ps ps.length (runF N.length ps.length b) :=
  let ⟨a, fd, F, g, bi⟩ := A; ⟨a, fd, fnG_ok F S (hb a), g, F.kp, bi⟩
theorem defQ_ok (A : FnAt K mg x st ps) (S : FnScope N ps (defScope st))
    (hb : ∀ (f : Addr) (cdv : Value) (A : Around) (outer : List Env) (s : Shared) (H : Hp) (E : XK), RoomH k (A.deeper (envOfC x (defScope st) s.heap.objs.size f cdv)) →
      DSs (cxQ (L2.CX P w) P w K mg base N x (defScope st) f cdv A outer s H E) (fun cls d _ H => E cls d H) (defBody st) b) : DefW (RoomH (k + 1)) P w K mg base x ps ps.length (runF N.length ps.length b) :=
  let ⟨a, fd, F, g, bi⟩ := A; ⟨a, fd, fnQ_ok F S (hb a), g, F.kp, bi⟩
end
theorem de_callW {X : Cx} {W : WX} {n : Nat} {ps : List Str} {F : FF} {x : Str} {p pos : Pos} {e : Expr} {es : List Expr} {ga : AF} {Φ : Around → Prop}
    (d : DefW Φ X.prog X.w X.K X.mg X.base x ps n F) (hr : Φ X.A) (tk : Takes X W) (hg : Gl X x) (ha : DA X W (e :: es) ga) (hl : aLen ga n) (hdb : (x == ("__debug__" : Str)) = false := by decide)
    (he : starEach (e :: es) X.env = (false, eval e X.env) :: starEach es X.env := by rfl) (hpl : (backTo pos (starEach es X.env)).any (·.1) = false := by rfl) :
    DE X W (.Call (.Name x p) (e :: es) [] pos) (eCall F ga) := by
  obtain ⟨a, fd, G, hm, hk, hb⟩ := d
  exact pe_wk (pe_callW G hr hg hm hk hb (fun σ => passAt tk σ) ha hdb he hpl) (tCall_of hl)
/-- the law's end, by a promise where no repr is under way -/
theorem law_ofW {Φ : Around → Prop} {P : Program} {w : World} {K : PySem.W.Frag} {mg : Str → Option Value} {base : Heap} {f : Addr} {fd : FuncData} {ps : List Str} {F : FF} (h : FnW Φ P w K mg base (L2.CX P w) f fd ps (spF K ⟨mg, P, w⟩ 1 F))
    (hF : ∀ ns : List Int, ns.length ≤ 63 → ∃ S, F [.ro ns] [] = .ok (.bl true) S) : FnW Φ P w K mg base (L2.CX P w) f fd ps (spLaw K) := h.imp fun vs H Q E ⟨a, ns, e, hs, ho, hl, q⟩ => by
  subst e
  obtain ⟨S, hS⟩ := hF ns hl
  refine ⟨rfl, [], [.ro ns], [], .cons (.ro ?_) .nil, ⟨rfl, List.nodup_nil, fun n o h => by simp at h⟩, ?_⟩
  · rcases hs with (h | ⟨o, h⟩) | h
    · rcases ho a with z | ⟨o, xs, z⟩
      · rw [h] at z; cases z
      · rw [h] at z; cases z
    · exact .inl ⟨o, by simp, h⟩
    · exact .inr (.inr h)
  · rw [hS]
    intro φ' H' v _ _ r
    cases r
    exact q H'
theorem roomG_caller {k : Nat} (h : Room k callerA) : RoomG k callerA := ⟨h, rfl⟩
end DV
set_option Elab.async false
set_option linter.all false
set_option maxRecDepth 100000
namespace DV
open PySem PySem.Spec PyProof.Rows L2
/-! ### what the generator's texts name -/
section
variable {P : Program} {w : World} {K : PySem.W.Frag} {mg : Str → Option Value} {base : Heap} {x : Str} {st : Stmt} {N ps : List Str} {k : Nat} {b : SF}
abbrev WExc (E : XK) : WX := fun cls d _ H => E cls d H
theorem def_okT (A : FnAt K mg x st ps) (S : FnScope N ps (defScope st))
    (hb : ∀ (f : Addr) (cdv : Value) (A : Around) (outer : List Env) (s : Shared) (H : Hp) (E : XK), Takes (cxOf (L2.CX P w) P w K mg base N x (defScope st) f cdv A outer s H E) (WExc E) →
      PassesOwn (model P w) (A.deeper (envOfC x (defScope st) s.heap.objs.size f cdv)) (envOfC x (defScope st) s.heap.objs.size f cdv) (cxOf (L2.CX P w) P w K mg base N x (defScope st) f cdv A outer s H E).xe →
      Room k (A.deeper (envOfC x (defScope st) s.heap.objs.size f cdv)) → DSs (cxOf (L2.CX P w) P w K mg base N x (defScope st) f cdv A outer s H E) (WExc E) (defBody st) b) : Def P w K mg base x ps (k + 1) ps.length (runF N.length ps.length b) :=
  def_ok A S fun f cdv A outer s H E hr => hb f cdv A outer s H E (takes_of rfl rfl rfl rfl) (passes_of rfl) hr
theorem def_okKT (A : FnAt K mg x st ps) (S : FnScope N ps (defScope st))
    (hb : ∀ (f : Addr) (cdv : Value) (A : Around) (outer : List Env) (s : Shared) (H : Hp) (E : XK), Takes (cxOf (L2.CX P w) P w K mg base N x (defScope st) f cdv A outer s H E) (WExc E) →
      PassesOwn (model P w) (A.deeper (envOfC x (defScope st) s.heap.objs.size f cdv)) (envOfC x (defScope st) s.heap.objs.size f cdv) (cxOf (L2.CX P w) P w K mg base N x (defScope st) f cdv A outer s H E).xe →
      Room k (A.deeper (envOfC x (defScope st) s.heap.objs.size f cdv)) → DSs (cxOf (L2.CX P w) P w K mg base N x (defScope st) f cdv A outer s H E) (WExc E) (defBody st) b) : Def P w K mg base x ps (k + 1) ps.length (runK N.length ps.length b) :=
  def_okK A S fun f cdv A outer s H E hr => hb f cdv A outer s H E (takes_of rfl rfl rfl rfl) (passes_of rfl) hr
theorem fnG_okT {f : Addr} {fd : FuncData} {qual : Str} (F : Fun K x qual st f fd) (S : FnScope N ps (defScope st))
    (hb : ∀ (cdv : Value) (A : Around) (outer : List Env) (s : Shared) (H : Hp) (E : XK), Takes (cxOf (L2.CX P w) P w K mg base N qual (defScope st) f cdv A outer s H E) (WExc E) →
      PassesOwn (model P w) (A.deeper (envOfC qual (defScope st) s.heap.objs.size f cdv)) (envOfC qual (defScope st) s.heap.objs.size f cdv) (cxOf (L2.CX P w) P w K mg base N qual (defScope st) f cdv A outer s H E).xe →
      Room k (A.deeper (envOfC qual (defScope st) s.heap.objs.size f cdv)) → DSs (cxOf (L2.CX P w) P w K mg base N qual (defScope st) f cdv A outer s H E) (WExc E) (defBody st) b) :
    FnW (RoomG (k + 1)) P w K mg base (L2.CX P w) f fd ps (spF K ⟨mg, P, w⟩ ps.length (runF N.length ps.length b)) :=
  fnG_ok F S fun cdv A outer s H E hr => hb cdv A outer s H E (takes_of rfl rfl rfl rfl) (passes_of rfl) hr.1
end
theorem cx_none {P : Program} {w : World} {H : Hp} {s s' : Shared} {e : Value} (h : L2.CX P w [] H s (fun _ _ _ => False) e s') : False := by
  obtain ⟨_, _, _, _, _, _, _, _, _, _, _, _, z⟩ := h
  exact z
theorem ds_setLcS {X : Cx} {W : WX} {st : Stmt} {i : Nat} {gi : IF} {gt : TF} {fe : EF} {t : Tg} {own' : List (Str × Nat)} (h : PS X st (L2.tAsg (L2.tLc (lf (ItR X.K X.M) X.K X.M W gi) (gOf X.K t) (lT X.K X.M wF gt) (lE X.K X.M wF fe) (own'.map (·.2))) (gName i))) (ho : ∀ j ∈ t.slots, j ∈ own'.map (·.2)) :
    DS X W st (sAsg (.nm i) (eLcS gi t gt fe (own'.map (·.2)))) :=
  ds_asg (ps_wk h fun N σ H z => tLcS_of ho σ H _ (z.imp fun x H1 q => by unfold gOf at q; exact q))
end DV
set_option Elab.async false
set_option linter.all false
set_option maxRecDepth 100000
namespace DV
open PySem PySem.Spec PyProof.Rows L2 L2H
/-- {}: by value -/
theorem de_dct0 {X : Cx} {W : WX} {pos : Pos} : DE X W (.Dict [] [] pos) (eC (.dct [])) := pe_wk pe_dnewK fun σ H Q ⟨φ, ρ, S, er, sr, p⟩ => fun q hq =>
  p φ _ _ (Ext.new hq) (sr.new hq) (.dct (ws := []) (sr.im hq) rfl .nil)
/-! ### xs.index(b), truths -/
def eIdx (a b : EF) : EF := fun ρ S => (a ρ S).bind fun l S1 => match lstOf l S1 with
  | some _ => (b ρ S1).bind fun d S2 => (match lstOf l S2 with
    | some xs => (match d, allBl xs with
      | .bl k, some bs => if k ∈ bs then .ok (.int (bs.idxOf k : Nat)) S2 else .no
      | _, _ => .no)
    | none => .no)
  | none => .no
theorem idx_bools (k : Bool) : ∀ {bs : List Bool}, k ∈ bs → (bs.map V.bl)[bs.idxOf k]? = some (.bl k) ∧ ∀ (m : Nat) (z : V), m < bs.idxOf k → (bs.map V.bl)[m]? = some z → ∃ c, z = .bl c ∧ (c == k) = false
  | [], h => by simp at h
  | b :: bs, h => by
    by_cases hb : b = k
    · subst hb
      have e : (b :: bs).idxOf b = 0 := by simp
      rw [e]
      exact ⟨rfl, fun m z hm => by omega⟩
    · have hk : k ∈ bs := (List.mem_cons.mp h).resolve_left (Ne.symm hb)
      obtain ⟨h1, h2⟩ := idx_bools k hk
      have e : (b :: bs).idxOf k = bs.idxOf k + 1 := by simp [List.idxOf, List.findIdx_cons, beq_eq_false_iff_ne.mpr hb]
      rw [e]
      refine ⟨by simpa using h1, fun m z hm hz => ?_⟩
      cases m with
      | zero => simp at hz; subst hz; exact ⟨b, rfl, by simpa using hb⟩
      | succ m => exact h2 m z (by omega) (by simpa using hz)
theorem de_idx {X : Cx} {W : WX} {w : Expr} {fa fb : EF} (h : PE X w (tBM X.K "list" (rIndex X.K) (lE X.K X.M W fa) (tCons (lE X.K X.M W fb) tNil))) : DE X W w (eIdx fa fb) :=
  pe_wk h fun σ H Q ⟨φ, ρ, S, er, sr, p⟩ => (lf.bind er sr p).imp fun x H1 ⟨φ1, S1, d, e1, sr1, r1, p1⟩ => by
    split at p1
    · rename_i ys hy
      obtain ⟨l, us, rfl, g, rs⟩ := lstOf_ok sr1 r1 hy
      refine ⟨.inl ⟨rfl, _, .of g⟩, ?_⟩
      refine (lf.bind (er.mono e1) sr1 p1).imp fun y H2 ⟨φ2, S2, d2, e2, sr2, r2, p2⟩ => ?_
      split at p2
      · rename_i xs hx
        split at p2
        · rename_i k bs hb
          split at p2
          · rename_i hk
            obtain ⟨l2, us2, h2, g2, rs2⟩ := lstOf_ok sr2 (r1.mono e2) hx
            cases h2
            have := allBl_ok rs2 hb
            subst this
            cases r2
            obtain ⟨i1, i2⟩ := idx_bools k hk
            refine ⟨_, _, _, bs.idxOf k, .bl k, rfl, rfl, .of g2, rfl, by simp [flatV, List.all_map, Function.comp_def], i1, by simp [eqV], fun m z hm hz => ?_, p2 φ2 H2 _ Ext.rfl' sr2 (.int _)⟩
            obtain ⟨c, rfl, hc⟩ := i2 m z hm hz
            simpa [eqV] using hc
          · exact p2.elim
        · exact p2.elim
      · exact p2.elim
    · exact p1.elim
/-! ### try, by the text's facts -/
/-- the class that a clause names, and which exceptions it takes -/
structure HC (K : PySem.W.Frag) (mg : Str → Option Value) (x : Str) (sub : Str → Option Bool) : Prop where
  ex : ∃ C, mg x = some (.ref C) ∧ Catch K mg (.ref C) sub
theorem ds_tryT {X : Cx} {W : WX} {x n : Str} {i : Nat} {body suite : List Stmt} {b₀ : Stmt} {np pos pos' : Pos} {f g : SF} {sub : Str → Option Bool} (hc : HC X.K X.mg x sub) (hg : Gl X x) (hd : (x == ("__debug__" : Str)) = false) (hex : X.ex = []) (hs : X.stack = X.env :: X.outer) (hf : X.env.frame = some X.env.locals)
    (hN : X.N.Nodup) (hi : X.N[i]? = some n) (hln : X.env.kindOf n = some .local) (tk : Takes X W)
    (hb : ∀ (W' : WX) (pn : List (Addr × Obj)) (xe : Value → Shared → Prop), Takes (X.tr pn xe) W' → PassesOwn (model X.prog X.w) X.A X.env xe → DSs (X.tr pn xe) W' body f)
    (hsu : ∀ (a : Addr) (pn : List (Addr × Obj)), DSs (X.suite a pn) wF (b₀ :: suite) g) :
    DS X W (.Try body [.ExceptHandler (some (.Name x np)) (some n) (b₀ :: suite) pos'] [] [] pos) (sTry sub i f g) := by
  obtain ⟨C, gC, hsub⟩ := hc.ex
  exact ds_try hex hs hf hN hi hln ⟨hg, hd, .inl gC⟩ tk hsub hb hsu
/-- a class as isinstance has it -/
structure IT (K : PySem.W.Frag) (mg : Str → Option Value) (x : Str) (sub : Str → Option Bool) : Prop where
  ex : ∃ C, mg x = some (.ref C) ∧ IsTab K mg (.ref C) sub
abbrev rIsX (K : PySem.W.Frag) : List V → Hp → VK → Prop := fun xs H Q => ∃ (a D : Addr) (oe : Obj) (c : V) (cv : Value) (b : Bool), xs = [.ref a, c] ∧ H a = some (ExT oe a) ∧ IsX D oe ∧ ExcC K D ∧ ClsV c cv ∧ PySem.W.kitOne K (.ref D) cv = some b ∧ Q (.bl b) H
theorem de_isxT {X : Cx} {W : WX} {w : Expr} {fa : EF} {x : Str} {sub : Str → Option Bool} (ht : IT X.K X.mg x sub) (h : ∀ C, X.mg x = some (.ref C) → PE X w (tCB (rIsX X.K) (tCons (lE X.K X.M W fa) (tCons (tC (.ref C)) tNil)))) : DE X W w (eIsX fa sub) := by
  obtain ⟨C, gC, z⟩ := ht.ex
  exact de_isx (c := .ref C) (.own C) z (h C gC)
theorem de_isxB {X : Cx} {W : WX} {w : Expr} {fa : EF} {x : String} {sub : Str → Option Bool} (ht : IsTab X.K X.mg (.type x) sub) (h : PE X w (tCB (rIsX X.K) (tCons (lE X.K X.M W fa) (tCons (tC (.ty x)) tNil)))) : DE X W w (eIsX fa sub) :=
  de_isx (c := .ty x) (.ty x) ht h
end DV
set_option Elab.async false
set_option linter.all false
set_option maxRecDepth 100000
namespace DV
open PySem PySem.Spec PyProof.Rows L2 L2H
/-! ### tables of classes -/
def tabX (l : List (Str × Bool)) : Str → Option Bool := fun c => l.lookup c
section
variable {K : PySem.W.Frag} {mg : Str → Option Value} {cv : Value} {c : Str} {C : Addr} {b : Bool} {l : List (Str × Bool)}
theorem catch_nil : Catch K mg cv (tabX []) := fun c b h => by cases h
theorem catch_cons (m : mg c = some (.ref C)) (e : PySem.W.exmOne K (.ref C) cv = some b) (h : Catch K mg cv (tabX l)) : Catch K mg cv (tabX ((c, b) :: l)) := fun x b' z => by
  unfold tabX at z
  rw [List.lookup_cons] at z
  split at z
  · rename_i hx
    have := eq_of_beq hx
    subst this
    cases z
    exact ⟨C, m, e⟩
  · exact h x b' z
theorem istab_nil : IsTab K mg cv (tabX []) := fun c b h => by cases h
theorem istab_cons (m : mg c = some (.ref C)) (x : ExcC K C) (e : PySem.W.kitOne K (.ref C) cv = some b) (h : IsTab K mg cv (tabX l)) : IsTab K mg cv (tabX ((c, b) :: l)) := fun y b' z => by
  unfold tabX at z
  rw [List.lookup_cons] at z
  split at z
  · rename_i hx
    have := eq_of_beq hx
    subst this
    cases z
    exact ⟨C, m, x, e⟩
  · exact h y b' z
end
/-! ### the generator's heads for the other two kinds of defs -/
section
variable {P : Program} {w : World} {K : PySem.W.Frag} {mg : Str → Option Value} {base : Heap} {x : Str} {st : Stmt} {N ps : List Str} {k : Nat} {b : SF}
theorem defG_okT (A : FnAt K mg x st ps) (S : FnScope N ps (defScope st))
    (hb : ∀ (f : Addr) (cdv : Value) (A : Around) (outer : List Env) (s : Shared) (H : Hp) (E : XK), Takes (cxOf (L2.CX P w) P w K mg base N x (defScope st) f cdv A outer s H E) (WExc E) →
      PassesOwn (model P w) (A.deeper (envOfC x (defScope st) s.heap.objs.size f cdv)) (envOfC x (defScope st) s.heap.objs.size f cdv) (cxOf (L2.CX P w) P w K mg base N x (defScope st) f cdv A outer s H E).xe →
      RoomG k (A.deeper (envOfC x (defScope st) s.heap.objs.size f cdv)) → Room k (A.deeper (envOfC x (defScope st) s.heap.objs.size f cdv)) → DSs (cxOf (L2.CX P w) P w K mg base N x (defScope st) f cdv A outer s H E) (WExc E) (defBody st) b) :
    DefW (RoomG (k + 1)) P w K mg base x ps ps.length (runF N.length ps.length b) :=
  defG_ok A S fun f cdv A outer s H E hr => hb f cdv A outer s H E (takes_of rfl rfl rfl rfl) (passes_of rfl) hr hr.1
theorem defQ_okT (A : FnAt K mg x st ps) (S : FnScope N ps (defScope st))
    (hb : ∀ (f : Addr) (cdv : Value) (A : Around) (outer : List Env) (s : Shared) (H : Hp) (E : XK), Takes (cxQ (L2.CX P w) P w K mg base N x (defScope st) f cdv A outer s H E) (WExc E) →
      RoomH k (A.deeper (envOfC x (defScope st) s.heap.objs.size f cdv)) → DSs (cxQ (L2.CX P w) P w K mg base N x (defScope st) f cdv A outer s H E) (WExc E) (defBody st) b) :
    DefW (RoomH (k + 1)) P w K mg base x ps ps.length (runF N.length ps.length b) :=
  defQ_ok A S fun f cdv A outer s H E hr => hb f cdv A outer s H E (takes_of rfl rfl rfl rfl) hr
theorem fnG_okG {f : Addr} {fd : FuncData} {qual : Str} (F : Fun K x qual st f fd) (S : FnScope N ps (defScope st))
    (hb : ∀ (cdv : Value) (A : Around) (outer : List Env) (s : Shared) (H : Hp) (E : XK), Takes (cxOf (L2.CX P w) P w K mg base N qual (defScope st) f cdv A outer s H E) (WExc E) →
      PassesOwn (model P w) (A.deeper (envOfC qual (defScope st) s.heap.objs.size f cdv)) (envOfC qual (defScope st) s.heap.objs.size f cdv) (cxOf (L2.CX P w) P w K mg base N qual (defScope st) f cdv A outer s H E).xe →
      RoomG k (A.deeper (envOfC qual (defScope st) s.heap.objs.size f cdv)) → Room k (A.deeper (envOfC qual (defScope st) s.heap.objs.size f cdv)) → DSs (cxOf (L2.CX P w) P w K mg base N qual (defScope st) f cdv A outer s H E) (WExc E) (defBody st) b) :
    FnW (RoomG (k + 1)) P w K mg base (L2.CX P w) f fd ps (spF K ⟨mg, P, w⟩ ps.length (runF N.length ps.length b)) :=
  fnG_ok F S fun cdv A outer s H E hr => hb cdv A outer s H E (takes_of rfl rfl rfl rfl) (passes_of rfl) hr hr.1
end
theorem room_un {k : Nat} {A : Around} (r : Room k A) : A.units + 128 < cLine := by have := r.un; omega
/-- str(int) -/
def cStr : FF
  | [.int i], S => if gd (i.natAbs.log2 < 1920) then .ok (.str (toString i)) S else .no
  | _, _ => .no
theorem cStr_ok {K : PySem.W.Frag} {mg : MG} : Cal K mg (fun xs H Q => ∃ i, xs = [.int i] ∧ i.natAbs.log2 < 1920 ∧ Q (.str (toString i)) H) cStr := fun W φ S H σ xs ds Q s r p => by
  unfold cStr at p
  split at p
  · split at p
    · rename_i hz
      cases r with
      | cons a b => cases b; cases a; exact ⟨_, rfl, of_gd hz, p φ H _ Ext.rfl' s (.str _)⟩
    · exact p.elim
  · exact p.elim
end DV
theorem L2H.RoomH.units {k : Nat} {A : PySem.Around} (r : L2H.RoomH k A) : A.units + 64 < PySem.cLine := by have := r.un; omega
set_option Elab.async false
set_option linter.all false
namespace DV
open PySem PySem.Spec PyProof.Rows L2
theorem kitOne_own {K : PySem.W.Frag} {D C : Addr} {b : Bool} (hc : PySem.W.hasDictIn K C = true) (ht : PySem.W.typeIn K (.ref C) = some (.type "type")) (self : PySem.W.subIn K (.ref D) (.ref D) = some true) (hs : PySem.W.subIn K (.ref D) (.ref C) = some b) : PySem.W.kitOne K (.ref D) (.ref C) = some b := by
  have hcl : (PySem.W.clsIn K C).isSome = true := by
    unfold PySem.W.hasDictIn at hc
    cases h : PySem.W.clsIn K C with
    | none => rw [h] at hc; simp at hc
    | some cd => rfl
  unfold PySem.W.kitOne
  by_cases e : (Value.ref D == Value.ref C) = true
  · rw [if_pos e]
    have : D = C := by simpa using e
    subst this
    rw [self] at hs
    exact hs
  · rw [if_neg e]
    show (if ((PySem.W.clsIn K C).isSome && PySem.W.typeIn K (.ref C) == some (.type "type")) = true then PySem.W.subIn K (.ref D) (.ref C) else none) = some b
    rw [if_pos (by rw [hcl, ht]; rfl)]
    exact hs
theorem kitOne_ty {K : PySem.W.Frag} {D : Addr} {T : String} {b : Bool} (hm : PySem.W.kitMeta T = true) (hs : PySem.W.subIn K (.ref D) (.type T) = some b) : PySem.W.kitOne K (.ref D) (.type T) = some b := by
  unfold PySem.W.kitOne
  rw [if_neg (by simp)]
  show (if PySem.W.kitMeta T = true then PySem.W.subIn K (.ref D) (.type T) else none) = some b
  rw [if_pos hm]
  exact hs
theorem exm_own {K : PySem.W.Frag} {C D : Addr} {b : Bool} (h1 : PySem.W.subIn K (.ref C) (.type "BaseException") = some true) (hc : PySem.W.hasDictIn K C = true) (ht : PySem.W.typeIn K (.ref C) = some (.type "type")) (hs : PySem.W.subIn K (.ref D) (.ref C) = some b) : PySem.W.exmOne K (.ref D) (.ref C) = some b :=
  PySem.W.exm_ref h1 hc ht hs
end DV
set_option Elab.async false
set_option linter.all false
set_option maxRecDepth 100000
namespace DV
open PySem PySem.Spec PyProof.Rows L2
/-! ### keys, sets, what is in what -/
def keyD : D → Option Key
  | .int i => some (.inl i)
  | .str s => some (.inr s)
  | _ => none
def keyTs : List D → Option (List Key)
  | [] => some []
  | d :: ds => match keyD d, keyTs ds with
    | some k, some ks => some (k :: ks)
    | _, _ => none
def keyT : D → Option (List Key)
  | .tup xs => keyTs xs
  | _ => none
section
variable {K : PySem.W.Frag} {mg : MG} {φ : List Addr} {H : Hp} {S : Sto}
theorem keyD_ok {v : V} {d : D} {k : Key} (r : Rp K mg φ H v d) (h : keyD d = some k) : v = kV k := by
  cases r <;> simp [keyD] at h <;> subst h <;> rfl
theorem keyTs_ok : ∀ {vs : List V} {ds : List D} {ks : List Key}, Rps K mg φ H vs ds → keyTs ds = some ks → vs = ks.map kV
  | _, _, _, .nil, h => by simp [keyTs] at h; subst h; rfl
  | _, _, ks, .cons a b, h => by
    simp only [keyTs] at h
    split at h
    · rename_i k ks' h1 h2
      cases h
      rw [keyD_ok a h1, keyTs_ok b h2]; rfl
    · cases h
theorem keyT_ok {v : V} {d : D} {ks : List Key} (r : Rp K mg φ H v d) (h : keyT d = some ks) : ∃ b, v = .ref b ∧ ImT K φ H b (ks.map kV) := by
  cases r <;> simp [keyT] at h
  rename_i t rs
  rw [← keyTs_ok rs h]
  exact ⟨_, rfl, t⟩
end
def valK {κ β : Type} [DecidableEq κ] (kvs : List (κ × β)) (k : κ) : Option β := (kvs.find? fun kv => decide (kv.1 = k)).map (·.2)
def putKD {κ β : Type} [DecidableEq κ] (kvs : List (κ × β)) (k : κ) (v : β) : List (κ × β) :=
  if (kvs.any fun kv => decide (kv.1 = k)) = true then kvs.map (fun kv => if kv.1 = k then (kv.1, v) else kv) else kvs ++ [(k, v)]
theorem valK_nil {κ β : Type} [DecidableEq κ] {k : κ} : valK ([] : List (κ × β)) k = none := rfl
theorem valK_pos {κ β : Type} [DecidableEq κ] {p : κ × β} {r : List (κ × β)} {k : κ} (e : p.1 = k) : valK (p :: r) k = some p.2 := by simp [valK, List.find?_cons, e]
theorem valK_neg {κ β : Type} [DecidableEq κ] {p : κ × β} {r : List (κ × β)} {k : κ} (e : ¬ p.1 = k) : valK (p :: r) k = valK r k := by simp [valK, List.find?_cons, e]
section
variable {K : PySem.W.Frag} {mg : MG} {φ : List Addr} {H : Hp} {S : Sto}
/-- what both hold at a key -/
theorem val_rel {κ : Type} [DecidableEq κ] : ∀ {ws : List (κ × V)} {kvs : List (κ × D)} (k : κ), ws.map (·.1) = kvs.map (·.1) → Rps K mg φ H (ws.map (·.2)) (kvs.map (·.2)) →
    (valV ws k = none ∧ valK kvs k = none) ∨ ∃ v d, valV ws k = some v ∧ valK kvs k = some d ∧ Rp K mg φ H v d
  | [], [], _, _, _ => .inl ⟨rfl, rfl⟩
  | [], _ :: _, _, h, _ => by simp at h
  | _ :: _, [], _, h, _ => by simp at h
  | p :: ps, q :: qs, k, h, r => by
    simp only [List.map_cons, List.cons.injEq] at h
    cases r with
    | cons r1 r2 =>
      by_cases e : p.1 = k
      · rw [valV_pos e, valK_pos (h.1.symm.trans e)]
        exact .inr ⟨_, _, rfl, rfl, r1⟩
      · rw [valV_neg e, valK_neg (fun z => e (h.1.trans z))]
        exact val_rel k h.2 r2
theorem val_relT : ∀ {xs : List (List Key × Addr × Value)} {ws : List V} {kvs : List (List Key × D)} (k : List Key), xs.map (·.1) = kvs.map (·.1) → Vals ws (xs.map (·.2.2)) → Rps K mg φ H ws (kvs.map (·.2)) →
    (atKey xs k = none ∧ valK kvs k = none) ∨ ∃ p v d, atKey xs k = some p ∧ RelV v p.2 ∧ valK kvs k = some d ∧ Rp K mg φ H v d
  | [], _, [], _, _, _, _ => .inl ⟨rfl, rfl⟩
  | [], _, _ :: _, _, h, _, _ => by simp at h
  | _ :: _, _, [], _, h, _, _ => by simp at h
  | p :: ps, _, q :: qs, k, h, v, r => by
    simp only [List.map_cons, List.cons.injEq] at h
    cases v with
    | cons v1 v2 =>
      cases r with
      | cons r1 r2 =>
        by_cases e : p.1 = k
        · rw [valK_pos (h.1.symm.trans e)]
          have b : atKey (p :: ps) k = some p.2 := by simp [atKey, List.find?_cons, e]
          exact .inr ⟨_, _, _, b, v1, rfl, r1⟩
        · rw [valK_neg (fun z => e (h.1.trans z))]
          have b : atKey (p :: ps) k = atKey ps k := by simp [atKey, List.find?_cons, e]
          rw [b]
          exact val_relT k h.2 v2 r2
end
/-! ### sets -/
theorem inK_add (ks : List Key) (k : Key) : (fun j => inK ks j || decide (j = k)) = inK (if inK ks k then ks else ks ++ [k]) ∧ (if inK ks k = true then ks.length else ks.length + 1) = (if inK ks k then ks else ks ++ [k]).length := by
  constructor
  · funext j
    by_cases h : inK ks k = true
    · rw [if_pos h]
      by_cases e : j = k
      · subst e; rw [h]; simp
      · simp [e]
    · rw [if_neg h]
      unfold inK
      rw [List.any_append]
      simp [eq_comm]
  · by_cases h : inK ks k = true
    · rw [if_pos h, if_pos h]
    · rw [if_neg h, if_neg h]; simp
theorem inK_mem {ks : List Key} {k : Key} : inK ks k = true ↔ k ∈ ks := by
  unfold inK
  simp
def setOf : D → Sto → Option (List Key)
  | .ob n, S => match S[n]? with
    | some (.set ks) => some ks
    | _ => none
  | _, _ => none
theorem setOf_ok {K : PySem.W.Frag} {mg : MG} {φ : List Addr} {H : Hp} {S : Sto} {v : V} {d : D} {ks : List Key} (s : Sr K mg φ S H) (r : Rp K mg φ H v d) (h : setOf d S = some ks) : ∃ n a, d = .ob n ∧ φ[n]? = some a ∧ v = .ref a ∧ ks.Nodup ∧ H a = some (SetK mg.P mg.w a (inK ks) ks.length) := by
  unfold setOf at h
  split at h
  · split at h
    · rename_i e
      cases h
      cases r with
      | ob hn =>
        obtain ⟨a, ha, nd, g⟩ := s.at' _ _ e
        rw [hn] at ha; cases ha
        exact ⟨_, _, rfl, hn, rfl, nd, g⟩
    · cases h
  · cases h
/-- set() -/
def eSet0S : EF := fun _ S => .ok (.ob S.length) (S ++ [.set []])
theorem de_set0S {X : Cx} {W : WX} {e : Expr} (h : PE X e (tCB (rSet0K X.prog X.w) tNil)) : DE X W e eSet0S := pe_wk h fun σ H Q ⟨φ, ρ, S, er, sr, p⟩ => by
  refine ⟨rfl, fun q hq => ?_⟩
  have e : (fun _ : Key => false) = inK [] := by funext k; rfl
  rw [e]
  exact p (φ ++ [q]) _ _ (Ext.newSnoc hq) (sr.snoc hq ⟨List.nodup_nil, upd_same⟩) (.ob (at_snoc sr q))
/-- seen.add(k) -/
def eSAdd (a b : EF) : EF := fun ρ S => (a ρ S).bind fun l S1 => match setOf l S1 with
  | some _ => (b ρ S1).bind fun d S2 => (match l, setOf l S2, keyD d with
    | .ob n, some ks, some k => if gd (ks.length + 1 < scanBound) then .ok .non (S2.set n (.set (if inK ks k then ks else ks ++ [k]))) else .no
    | _, _, _ => .no)
  | none => .no
theorem de_sadd {X : Cx} {W : WX} {w : Expr} {fa fb : EF} (h : PE X w (tSAddK X.prog X.w (lE X.K X.M W fa) (tCons (lE X.K X.M W fb) tNil))) : DE X W w (eSAdd fa fb) := pe_wk h fun σ H Q ⟨φ, ρ, S, er, sr, p⟩ =>
  (lf.bind er sr p).imp fun x H1 ⟨φ1, S1, d, e1, sr1, r1, p1⟩ => by
    split at p1
    · rename_i ks0 h0
      obtain ⟨n, a, rfl, hn, rfl, nd, g⟩ := setOf_ok sr1 r1 h0
      refine ⟨⟨_, _, _, rfl, g⟩, (lf.bind (er.mono e1) sr1 p1).imp fun y H2 ⟨φ2, S2, d2, e2, sr2, r2, p2⟩ => ?_⟩
      split at p2
      · rename_i m ks k hm h2 h3
        cases hm
        split at p2
        · rename_i hs
          obtain ⟨n', a', hn', hφ, ev, nd', g'⟩ := setOf_ok sr2 (r1.mono e2) h2
          cases hn'; cases ev
          obtain ⟨k1, k2⟩ := inK_add ks k
          refine ⟨a, k, inK ks, ks.length, rfl, by rw [keyD_ok r2 h3], g', of_gd hs, ?_⟩
          rw [k1, k2]
          refine p2 φ2 _ _ (Ext.put hφ) (sr2.put hφ ⟨?_, upd_same⟩) .non
          by_cases hk : inK ks k = true
          · rw [if_pos hk]; exact nd'
          · rw [if_neg hk, List.nodup_append]
            exact ⟨nd', by simp, fun x hx y hy => by
              have : y = k := by simpa using hy
              subst this
              rintro rfl
              exact hk (inK_mem.mpr hx)⟩
        · exact p2.elim
      · exact p2.elim
    · exact p1.elim
end DV
namespace DV
open PySem PySem.Spec PyProof.Rows L2
/-! ### tuple-keyed dicts, at the library's level -/
section
variable {X : Cx} {pins : List (Addr × Obj)} {σ : L2.St} {H : Hp} {s : Shared} {a b : Addr} {φ : List Addr}
theorem key_at (I : Inv X pins σ H s) {ks : List Key} (h : ImT X.K φ H b (ks.map kV)) : (tupleKind (mixKind X.prog X.w)).is s.heap ks b := by
  obtain ⟨its, r, pl, hz⟩ := I.tuple h.sq
  obtain ⟨o, h1, h2, n, h3⟩ := pl
  exact ⟨o, its.toArray, n, h1, h2, h3, by simpa using items_are r⟩
theorem dtx_at (I : Inv X pins σ H s) {xs : List (List Key × Addr × Value)} (e : H a = some (DTx X.prog X.w a xs)) (kt : KeysT X.K φ H a xs) : s.heap.DictOfH (tupleKind (mixKind X.prog X.w)) a xs := by
  obtain ⟨⟨o, es, ep, h1, h2, h3, h4⟩, _⟩ := (show ObjOk X.prog X.w H s.heap a (DTx X.prog X.w a xs) from I.hok a _ e)
  exact ⟨o, es, ep, h1, h2, h3, h4, fun x hx => key_at I (kt.keys x hx), kt.nd⟩
theorem dtx_ok {P : Program} {w : World} {H : Hp} {h : Heap} {xs : List (List Key × Addr × Value)} (d : h.DictOfH (tupleKind (mixKind P w)) a xs) : ObjOk P w H h a (DTx P w a xs) := by
  obtain ⟨o, es, ep, h1, h2, h3, h4, _, _⟩ := d
  exact ⟨⟨o, es, ep, h1, h2, h3, h4⟩, ⟨o, h1⟩, fun g1 g2 ⟨o', es', ep', q1, q2, q3, q4⟩ k => ⟨o', es', ep', k _ q1, q2, q3, q4⟩⟩
end
end DV
set_option Elab.async false
set_option linter.all false
set_option maxRecDepth 100000
namespace DV
open PySem PySem.Spec PyProof.Rows L2
/-! ### dicts, whatever their keys: what they hold -/
/-- what a tuple-keyed dict holds at the key that stands at b -/
def TGet (P : Program) (w : World) (K : PySem.W.Frag) (H : Hp) (a : Addr) (y : V) (o : Option V) : Prop :=
  ∃ φ xs ks b, H a = some (DTx P w a xs) ∧ KeysT K φ H a xs ∧ y = .ref b ∧ ImT K φ H b (ks.map kV) ∧ RelO o ((atKey xs ks).map (·.2))
def XGet (P : Program) (w : World) (K : PySem.W.Frag) (H : Hp) (a : Addr) (y : V) (o : Option V) : Prop := DGet H a y o ∨ TGet P w K H a y o
section
variable {X : Cx} {pins : List (Addr × Obj)} {σ : L2.St} {H : Hp} {s : Shared} {a : Addr} {y v : V} {u r : Value} {o : Option V} {A : Around} {E : Value → Shared → Prop}
theorem x_typeIs (I : Inv X pins σ H s) (g : XGet X.prog X.w X.K H a y o) : s.TypeIs (.ref a) "dict" := by
  rcases g with g | ⟨φ, xs, ks, b, e, kt, _⟩
  · exact dict_typeIs I g
  · exact (dtx_at I e kt).typeIs
theorem x_getItem {Q : Value → Shared → Prop} (hu : A.units + 1 < cLine) (I : Inv X pins σ H s) (g : XGet X.prog X.w X.K H a y (some v)) (ry : RelV y u) (h : ∀ w' s', Inv X pins σ H s' → RelV v w' → Q w' s') :
    wpAny (model X.prog X.w) A (getItem (.ref a) u) Q E s := by
  rcases g with g | ⟨φ, xs, ks, b, e, kt, rfl, hb, ro⟩
  · exact d_getItem hu I g ry h
  · cases (show u = Value.ref b from ry)
    obtain ⟨w', hw, rw'⟩ := RelO.some_of ro
    obtain ⟨p, hp, hp2⟩ := Option.map_eq_some_iff.mp hw
    refine wpAny_getItem_heap (tupleKind_room_in1 hu) (key_at I hb) (dtx_at I e kt) hp ?_
    rw [hp2]
    exact h w' _ (I.tok _) rw'
theorem x_in {Q : Value → Shared → Prop} (hu : A.units + 1 < cLine) (I : Inv X pins σ H s) (g : XGet X.prog X.w X.K H a y o) (ry : RelV y u) (h : ∀ s', Inv X pins σ H s' → Q (.bool o.isSome) s') :
    wpAny (model X.prog X.w) A (compareOp .In u (.ref a)) Q E s := by
  rcases g with g | ⟨φ, xs, ks, b, e, kt, rfl, hb, ro⟩
  · exact d_in hu I g ry h
  · cases (show u = Value.ref b from ry)
    refine wpAny_in_heap (tupleKind_room_in1 hu) (key_at I hb) kt.ne (dtx_at I e kt) ?_
    have q := ro.isSome_eq
    rw [Option.isSome_map] at q
    rw [← q]
    exact h _ (I.tok _)
theorem x_notIn {Q : Value → Shared → Prop} (hu : A.units + 1 < cLine) (I : Inv X pins σ H s) (g : XGet X.prog X.w X.K H a y o) (ry : RelV y u) (h : ∀ s', Inv X pins σ H s' → Q (.bool (!o.isSome)) s') :
    wpAny (model X.prog X.w) A (compareOp .NotIn u (.ref a)) Q E s := by
  rcases g with g | ⟨φ, xs, ks, b, e, kt, rfl, hb, ro⟩
  · exact d_notIn hu I g ry h
  · cases (show u = Value.ref b from ry)
    refine wpAny_notIn_heap (tupleKind_room_in1 hu) (key_at I hb) kt.ne (dtx_at I e kt) ?_
    have q := ro.isSome_eq
    rw [Option.isSome_map] at q
    rw [← q]
    exact h _ (I.tok _)
end
section
variable {X : Cx} {o i e value : Expr} {pos pos' tpos : Pos} {td ty tv : TE}
def tXGet (P : Program) (w : World) (K : PySem.W.Frag) (td ty : TE) : TE := fun σ H Q => td σ H fun x H1 => ty σ H1 fun y H2 => ∃ a v, x = .ref a ∧ XGet P w K H2 a y (some v) ∧ Q v H2
theorem pe_xget (hu : X.A.units + 1 < cLine) (ho : PE X o td) (hi : PE X i ty) (hs : NoSl i) : PE X (.Subscript o i pos) (tXGet X.prog X.w X.K td ty) := by
  refine ⟨fun pins s σ H Q I h => ?_⟩
  refine subD_of PySem.F.slot_dict_getitem.lookup hs (thn (ho.run pins s σ H _ I h) fun u s1 ⟨x, H1, I1, rx, q1⟩ => thn (hi.run pins s1 σ H1 _ I1 q1) fun iv s2 ⟨y, H2, I2, ry, a, v, ex, g, q2⟩ => ?_)
  subst ex
  obtain rfl : u = Value.ref a := rx
  exact ⟨x_typeIs I2 g, x_getItem hu I2 g ry fun w' s3 I3 rw' => ⟨v, H2, I3, rw', q2⟩⟩
theorem op_inX (hu : X.A.units + 1 < cLine) : OpR X (compareOp .In) (fun x y H Q => ∃ a o, y = .ref a ∧ XGet X.prog X.w X.K H a x o ∧ Q (.bl o.isSome) H) := by
  intro pins s σ H x y v u Q I rx ry h
  obtain ⟨a, ov, rfl, g, q⟩ := h
  obtain rfl : u = Value.ref a := ry
  exact x_in hu I g rx fun s3 I3 => ⟨.bl ov.isSome, H, I3, rfl, q⟩
theorem op_notInX (hu : X.A.units + 1 < cLine) : OpR X (compareOp .NotIn) (fun x y H Q => ∃ a o, y = .ref a ∧ XGet X.prog X.w X.K H a x o ∧ Q (.bl (!o.isSome)) H) := by
  intro pins s σ H x y v u Q I rx ry h
  obtain ⟨a, ov, rfl, g, q⟩ := h
  obtain rfl : u = Value.ref a := ry
  exact x_notIn hu I g rx fun s3 I3 => ⟨.bl (!ov.isSome), H, I3, rfl, q⟩
/-- the heap behind d[y] = v, the key a tuple -/
def TPut (P : Program) (w : World) (K : PySem.W.Frag) (H : Hp) (a : Addr) (y v : V) (Q : Hp → Prop) : Prop :=
  ∃ φ xs ks b, H a = some (DTx P w a xs) ∧ KeysT K φ H a xs ∧ y = .ref b ∧ ImT K φ H b (ks.map kV) ∧ ∀ u, RelV v u → Q (upd H a (DTx P w a (storedH xs ks b u)))
def sXPut (P : Program) (w : World) (K : PySem.W.Frag) (td ty tv : TE) : TS := fun D σ H => tv σ H fun v H1 => td σ H1 fun x H2 => ty σ H2 fun y H3 => ∃ a, x = .ref a ∧ ((∃ H4, DPut H3 a y v H4 ∧ D.nx σ H4) ∨ TPut P w K H3 a y v fun H4 => D.nx σ H4)
theorem ps_xput (hu : X.A.units + 1 < cLine) (ho : PE X o td) (hi : PE X i ty) (hv : PE X value tv) (hs : swapsWith value (some (.Subscript o i pos')) pos.line X.env = pure false) :
    PS X (.Assign [.Subscript o i pos'] value pos) (sXPut X.prog X.w X.K td ty tv) := by
  refine ⟨fun pins s σ H D I h => ?_⟩
  refine wpAny_Assign_Subscript (thn (hv.run pins s σ H _ I h) fun r s1 ⟨v, H1, I1, rv, q1⟩ => thn (ho.run pins s1 σ H1 _ I1 q1) fun u s2 ⟨x, H2, I2, rx, q2⟩ => thn (hi.run pins s2 σ H2 _ I2 q2) fun iv s3 ⟨y, H3, I3, ry, a, ex, g⟩ => ?_) hs
  subst ex
  obtain rfl : u = Value.ref a := rx
  rcases g with ⟨H4, g, q3⟩ | ⟨φ, xs, ks, b, e, kt, rfl, hb, q3⟩
  · exact d_setItem hu I3 g ry rv fun s4 I4 => ⟨σ, H4, I4, q3⟩
  · cases (show iv = Value.ref b from ry)
    have dd := dtx_at I3 e kt
    refine wpAny_setItem_heap (hsz := kt.size) (tupleKind_room_in1 hu) (key_at I3 hb) dd fun h' dd' hsb => ?_
    have he : ∃ q, h'.get? a = some q := let ⟨q, _, _, hq, _⟩ := dd'; ⟨q, hq⟩
    exact ⟨σ, _, d_write I3 (by rw [e]; exact True.intro) hsb he (dtx_ok dd'), q3 r rv⟩
end
end DV
set_option Elab.async false
set_option linter.all false
set_option maxRecDepth 100000
namespace DV
open PySem PySem.Spec PyProof.Rows L2
/-! ### dicts read and written, membership -/
def dicOf : D → Sto → Option (List (Key × D))
  | .dct kvs, _ => some kvs
  | .ob n, S => match S[n]? with
    | some (.dic kvs) => some kvs
    | _ => none
  | _, _ => none
def dttOf : D → Sto → Option (List (List Key × D))
  | .dtt kvs, _ => some kvs
  | .ob n, S => match S[n]? with
    | some (.dtt kvs) => some kvs
    | _ => none
  | _, _ => none
/-- what the dict d holds at k: none where it is no dict or no key -/
def getX (d k : D) (S : Sto) : Option (Option D) := match dicOf d S, dttOf d S with
  | some kvs, _ => (keyD k).map (valK kvs)
  | none, some kvs => (keyT k).map (valK kvs)
  | none, none => none
section
variable {K : PySem.W.Frag} {mg : MG} {φ : List Addr} {H : Hp} {S : Sto}
theorem dicOf_ok {v : V} {d : D} {kvs : List (Key × D)} (s : Sr K mg φ S H) (r : Rp K mg φ H v d) (h : dicOf d S = some kvs) : ∃ a ws, v = .ref a ∧ H a = some (.dK ws) ∧ ws.map (·.1) = kvs.map (·.1) ∧ Rps K mg φ H (ws.map (·.2)) (kvs.map (·.2)) := by
  unfold dicOf at h
  split at h
  · cases h
    cases r with
    | dct t kk rs => exact ⟨_, _, rfl, t.2, kk, rs⟩
  · split at h
    · rename_i e
      cases h
      cases r with
      | ob hn =>
        obtain ⟨a, ha, ws, g, kk, rs⟩ := s.at' _ _ e
        rw [hn] at ha; cases ha
        exact ⟨_, ws, rfl, g, kk, rs⟩
    · cases h
  · cases h
theorem dttOf_ok {v : V} {d : D} {kvs : List (List Key × D)} (s : Sr K mg φ S H) (r : Rp K mg φ H v d) (h : dttOf d S = some kvs) : ∃ a xs ws, v = .ref a ∧ H a = some (DTx mg.P mg.w a xs) ∧ KeysT K φ H a xs ∧ xs.map (·.1) = kvs.map (·.1) ∧ Vals ws (xs.map (·.2.2)) ∧ Rps K mg φ H ws (kvs.map (·.2)) := by
  unfold dttOf at h
  split at h
  · cases h
    cases r with
    | dtt t kt kk vv rs => exact ⟨_, _, _, rfl, t.2, kt, kk, vv, rs⟩
  · split at h
    · rename_i e
      cases h
      cases r with
      | ob hn =>
        obtain ⟨a, ha, xs, ws, g, kt, kk, vv, rs⟩ := s.at' _ _ e
        rw [hn] at ha; cases ha
        exact ⟨_, xs, ws, rfl, g, kt, kk, vv, rs⟩
    · cases h
  · cases h
theorem getX_ok {v y : V} {d k : D} {o : Option D} (s : Sr K mg φ S H) (r : Rp K mg φ H v d) (ry : Rp K mg φ H y k) (h : getX d k S = some o) :
    ∃ a ov, v = .ref a ∧ XGet mg.P mg.w K H a y ov ∧ ((ov = none ∧ o = none) ∨ ∃ u e, ov = some u ∧ o = some e ∧ Rp K mg φ H u e) := by
  unfold getX at h
  split at h
  · rename_i kvs h1
    simp only [Option.map_eq_some_iff] at h
    obtain ⟨kk, hk, rfl⟩ := h
    obtain ⟨a, ws, rfl, g, km, rs⟩ := dicOf_ok s r h1
    have e := keyD_ok ry hk
    subst e
    refine ⟨a, valV ws kk, rfl, .inl (DGet.k g), ?_⟩
    rcases val_rel kk km rs with ⟨h1, h2⟩ | ⟨u, e, h1, h2, h3⟩
    · exact .inl ⟨h1, h2⟩
    · exact .inr ⟨u, e, h1, h2, h3⟩
  · rename_i kvs h0 h1
    simp only [Option.map_eq_some_iff] at h
    obtain ⟨kk, hk, rfl⟩ := h
    obtain ⟨a, xs, ws, rfl, g, kt, km, vv, rs⟩ := dttOf_ok s r h1
    obtain ⟨b, rfl, hb⟩ := keyT_ok ry hk
    rcases val_relT kk km vv rs with ⟨h1, h2⟩ | ⟨p, u, e, h1, h2, h3, h4⟩
    · exact ⟨a, none, rfl, .inr ⟨φ, xs, kk, b, g, kt, rfl, hb, by rw [h1]; trivial⟩, .inl ⟨rfl, h2⟩⟩
    · exact ⟨a, some u, rfl, .inr ⟨φ, xs, kk, b, g, kt, rfl, hb, by rw [h1]; exact h2⟩, .inr ⟨u, e, rfl, h3, h4⟩⟩
  · cases h
end
/-- d[k], there -/
def eDGet (a b : EF) : EF := fun ρ S => (a ρ S).bind fun x S1 => (b ρ S1).bind fun y S2 => match getX x y S2 with
  | some (some d) => .ok d S2
  | _ => .no
theorem de_dget {X : Cx} {W : WX} {a b : Expr} {fa fb : EF} {pos : Pos} (hu : X.A.units + 1 < cLine) (ha : DE X W a fa) (hb : DE X W b fb) (hs : NoSl b := by intro _ _; rfl) : DE X W (.Subscript a b pos) (eDGet fa fb) :=
  pe_wk (pe_xget hu ha hb hs) fun σ H Q ⟨φ, ρ, S, er, sr, p⟩ => (lf.bind er sr p).imp fun x H1 ⟨φ1, S1, d, e1, sr1, r1, p1⟩ => (lf.bind (er.mono e1) sr1 p1).imp fun y H2 ⟨φ2, S2, k, e2, sr2, r2, p2⟩ => by
    split at p2
    · rename_i e he
      obtain ⟨a, ov, rfl, g, z⟩ := getX_ok sr2 (r1.mono e2) r2 he
      rcases z with ⟨_, z⟩ | ⟨u, e', rfl, z, ru⟩
      · cases z
      · cases z
        exact ⟨a, u, rfl, g, p2 φ2 H2 _ Ext.rfl' sr2 ru⟩
    · exact p2.elim
/-- the store behind d[k] = v -/
def putX (d k v : D) (S : Sto) : Option Sto := match d with
  | .ob n => match S[n]? with
    | some (.dic kvs) => match keyD k with
      | some kk => if gd (kvs.length < 1000000) then some (S.set n (.dic (putKD kvs kk v))) else none
      | none => none
    | some (.dtt kvs) => match keyT k with
      | some kk => if gd (kvs.length < 1000000) then some (S.set n (.dtt (putKD kvs kk v))) else none
      | none => none
    | _ => none
  | _ => none
def sDPutD (o i a : EF) : SF := fun ρ S => (a ρ S).sb ρ fun v S1 => (o ρ S1).sb ρ fun d S2 => (i ρ S2).sb ρ fun k S3 => match putX d k v S3 with
  | some T => .nx ρ T
  | none => .no
section
variable {K : PySem.W.Frag} {mg : MG} {φ : List Addr} {H : Hp} {S : Sto}
theorem put_rel {κ : Type} [DecidableEq κ] {k : κ} {v : V} {d : D} (rv : Rp K mg φ H v d) : ∀ {ws : List (κ × V)} {kvs : List (κ × D)}, ws.map (·.1) = kvs.map (·.1) → Rps K mg φ H (ws.map (·.2)) (kvs.map (·.2)) →
    (ws.map fun kv => if kv.1 = k then (kv.1, v) else kv).map (·.1) = (kvs.map fun kv => if kv.1 = k then (kv.1, d) else kv).map (·.1) ∧
    Rps K mg φ H ((ws.map fun kv => if kv.1 = k then (kv.1, v) else kv).map (·.2)) ((kvs.map fun kv => if kv.1 = k then (kv.1, d) else kv).map (·.2))
  | [], [], _, _ => ⟨rfl, .nil⟩
  | [], _ :: _, h, _ => by simp at h
  | _ :: _, [], h, _ => by simp at h
  | p :: ps, q :: qs, h, r => by
    simp only [List.map_cons, List.cons.injEq] at h
    cases r with
    | cons r1 r2 =>
      obtain ⟨i1, i2⟩ := put_rel rv h.2 r2
      simp only [List.map_cons]
      by_cases e : p.1 = k
      · have e' : q.1 = k := h.1.symm.trans e
        rw [if_pos e, if_pos e']
        exact ⟨by simp only [List.cons.injEq]; exact ⟨h.1, i1⟩, .cons rv i2⟩
      · have e' : ¬ q.1 = k := fun z => e (h.1.trans z)
        rw [if_neg e, if_neg e']
        exact ⟨by simp only [List.cons.injEq]; exact ⟨h.1, i1⟩, .cons r1 i2⟩
theorem any_keys {κ β γ : Type} [DecidableEq κ] {k : κ} : ∀ {ws : List (κ × β)} {kvs : List (κ × γ)}, ws.map (·.1) = kvs.map (·.1) → (ws.any fun kv => decide (kv.1 = k)) = (kvs.any fun kv => decide (kv.1 = k))
  | [], [], _ => rfl
  | [], _ :: _, h => by simp at h
  | _ :: _, [], h => by simp at h
  | p :: ps, q :: qs, h => by
    simp only [List.map_cons, List.cons.injEq] at h
    rw [List.any_cons, List.any_cons, any_keys h.2, h.1]
theorem putK_rel {κ : Type} [DecidableEq κ] {k : κ} {v : V} {d : D} (rv : Rp K mg φ H v d) {ws : List (κ × V)} {kvs : List (κ × D)} (h : ws.map (·.1) = kvs.map (·.1)) (r : Rps K mg φ H (ws.map (·.2)) (kvs.map (·.2))) :
    (L2.putK ws k v).map (·.1) = (putKD kvs k d).map (·.1) ∧ Rps K mg φ H ((L2.putK ws k v).map (·.2)) ((putKD kvs k d).map (·.2)) := by
  unfold L2.putK putKD
  rw [any_keys h]
  by_cases e : (kvs.any fun kv => decide (kv.1 = k)) = true
  · rw [if_pos e, if_pos e]
    exact put_rel rv h r
  · rw [if_neg e, if_neg e]
    simp only [List.map_append, List.map_cons, List.map_nil]
    exact ⟨by rw [h], r.append (.cons rv .nil)⟩
theorem repl_relT {k : List Key} {v : V} {u : Value} {d : D} (ru : RelV v u) (rv : Rp K mg φ H v d) : ∀ {xs : List (List Key × Addr × Value)} {ws : List V} {kvs : List (List Key × D)}, xs.map (·.1) = kvs.map (·.1) → Vals ws (xs.map (·.2.2)) → Rps K mg φ H ws (kvs.map (·.2)) →
    (xs.map (putAt k u)).map (·.1) = (kvs.map fun kv => if kv.1 = k then (kv.1, d) else kv).map (·.1) ∧ ∃ ws', Vals ws' ((xs.map (putAt k u)).map (·.2.2)) ∧ Rps K mg φ H ws' ((kvs.map fun kv => if kv.1 = k then (kv.1, d) else kv).map (·.2))
  | [], _, [], _, v, r => ⟨rfl, [], .nil, .nil⟩
  | [], _, _ :: _, h, _, _ => by simp at h
  | _ :: _, _, [], h, _, _ => by simp at h
  | p :: ps, _, q :: qs, h, vv, r => by
    simp only [List.map_cons, List.cons.injEq] at h
    cases vv with
    | cons v1 v2 =>
      cases r with
      | cons r1 r2 =>
        obtain ⟨i1, ws', i2, i3⟩ := repl_relT ru rv h.2 v2 r2
        simp only [List.map_cons]
        unfold putAt
        by_cases e : p.1 = k
        · have e' : q.1 = k := h.1.symm.trans e
          rw [if_pos e, if_pos e']
          exact ⟨by simp only [List.cons.injEq]; exact ⟨h.1, i1⟩, v :: ws', .cons ru i2, .cons rv i3⟩
        · have e' : ¬ q.1 = k := fun z => e (h.1.trans z)
          rw [if_neg e, if_neg e']
          exact ⟨by simp only [List.cons.injEq]; exact ⟨h.1, i1⟩, _ :: ws', .cons v1 i2, .cons r1 i3⟩
theorem vals_snoc {u : Value} {v : V} (r : RelV v u) : ∀ {ws : List V} {us : List Value}, Vals ws us → Vals (ws ++ [v]) (us ++ [u])
  | _, _, .nil => .cons r .nil
  | _, _, .cons a b => .cons a (vals_snoc r b)
theorem atKey_any {k : List Key} : ∀ {xs : List (List Key × Addr × Value)} , (atKey xs k).isSome = (xs.any fun x => decide (x.1 = k))
  | [] => rfl
  | p :: ps => by
    by_cases e : p.1 = k
    · simp [atKey, List.find?_cons, e]
    · have := atKey_any (k := k) (xs := ps)
      simp [atKey, List.find?_cons, e] at this ⊢
      rw [← this]
theorem nodup_put {k : List Key} {u : Value} {xs : List (List Key × Addr × Value)} : (xs.map (putAt k u)).map (·.1) = xs.map (·.1) := by
  rw [List.map_map]
  refine List.map_congr_left fun x _ => ?_
  show (putAt k u x).1 = x.1
  unfold putAt
  split <;> rfl
end
theorem ds_dput {X : Cx} {W : WX} {o i value : Expr} {fo fi fa : EF} {pos pos' : Pos} (hu : X.A.units + 1 < cLine) (ho : DE X W o fo) (hi : DE X W i fi) (hv : DE X W value fa) (hs : swapsWith value (some (.Subscript o i pos')) pos.line X.env = pure false) :
    DS X W (.Assign [.Subscript o i pos'] value pos) (sDPutD fo fi fa) :=
  ps_wk (ps_xput hu ho hi hv hs) fun N σ H ⟨φ, ρ, S, er, sr, p⟩ => (lf.sb er sr p).imp fun v H1 ⟨φ1, S1, d, e1, sr1, r1, p1⟩ => (lf.sb (er.mono e1) sr1 p1).imp fun x H2 ⟨φ2, S2, t, e2, sr2, r2, p2⟩ =>
    (lf.sb ((er.mono e1).mono e2) sr2 p2).imp fun y H3 ⟨φ3, S3, k, e3, sr3, r3, p3⟩ => by
      have rx := r2.mono e3
      have rv := (r1.mono e2).mono e3
      have er3 := ((er.mono e1).mono e2).mono e3
      split at p3
      · rename_i T hT
        cases t with
        | ob n =>
          unfold putX at hT
          simp only at hT
          obtain ⟨a, rfl, hn⟩ : ∃ a, x = .ref a ∧ φ3[n]? = some a := by cases rx; exact ⟨_, rfl, by assumption⟩
          split at hT
          · rename_i kvs hk
            split at hT
            · rename_i kk hkk
              split at hT
              · rename_i hl
                cases hT
                obtain ⟨a', ha, ws, g, km, rs⟩ := sr3.at' _ _ hk
                obtain rfl : a = a' := by rw [hn] at ha; exact Option.some.inj ha
                have ey := keyD_ok r3 hkk
                subst ey
                have ll : ws.length = kvs.length := by have := congrArg List.length km; simpa using this
                refine ⟨a, rfl, .inl ⟨_, DPut.k g (by have := of_gd hl; rw [sizeLine_eq]; omega), ?_⟩⟩
                have ex : Ext φ3 H3 φ3 (upd H3 a (.dK (L2.putK ws kk v))) := Ext.put hn
                obtain ⟨k1, k2⟩ := putK_rel (k := kk) (rv.mono ex) km (rs.mono ex)
                exact p3 φ3 σ _ ex (sr3.put hn ⟨_, upd_same, k1, k2⟩) (er3.mono ex)
              · cases hT
            · cases hT
          · rename_i kvs hk
            split at hT
            · rename_i kk hkk
              split at hT
              · rename_i hl
                cases hT
                obtain ⟨a', ha, xs, ws, g, kt, km, vv, rs⟩ := sr3.at' _ _ hk
                obtain rfl : a = a' := by rw [hn] at ha; exact Option.some.inj ha
                obtain ⟨b, rfl, hb⟩ := keyT_ok r3 hkk
                have ll : xs.length = kvs.length := by have := congrArg List.length km; simpa using this
                refine ⟨a, rfl, .inr ⟨φ3, xs, kk, b, g, kt, rfl, hb, fun u ru => ?_⟩⟩
                have ex : Ext φ3 H3 φ3 (upd H3 a (DTx X.prog X.w a (storedH xs kk b u))) := Ext.put hn
                refine p3 φ3 σ _ ex (sr3.put hn ?_) (er3.mono ex)
                have kt' := kt.mono ex
                have hb' := hb.mono ex
                have rv' := rv.mono ex
                have rs' := rs.mono ex
                unfold putKD
                rw [← any_keys km, ← atKey_any]
                by_cases z : (atKey xs kk).isSome = true
                · rw [if_pos z]
                  have es : storedH xs kk b u = xs.map (putAt kk u) := by unfold storedH; rw [if_pos z]
                  rw [es] at ex rv' rs' kt' ⊢
                  obtain ⟨i1, ws', i2, i3⟩ := repl_relT (k := kk) ru rv' km vv rs'
                  refine ⟨_, ws', upd_same, ⟨by rw [List.length_map]; exact kt'.size, kt'.ne, by rw [nodup_put]; exact kt'.nd, fun x hx => ?_⟩, i1, i2, i3⟩
                  obtain ⟨x0, hx0, rfl⟩ := List.mem_map.mp hx
                  have := kt.keys x0 hx0
                  unfold putAt
                  split
                  · exact this.mono ex
                  · exact this.mono ex
                · rw [if_neg z]
                  have es : storedH xs kk b u = xs ++ [(kk, b, u)] := by unfold storedH; rw [if_neg z]
                  rw [es] at ex rv' rs' kt' ⊢
                  refine ⟨_, ws ++ [v], upd_same, ⟨by rw [List.length_append, List.length_singleton]; have := of_gd hl; rw [sizeLine_eq]; omega, kt.ne, ?_, fun x hx => ?_⟩, ?_, ?_, ?_⟩
                  · rw [List.map_append, List.nodup_append]
                    refine ⟨kt.nd, by simp, fun x hx y hy => ?_⟩
                    have : y = kk := by simpa using hy
                    subst this
                    rintro rfl
                    refine z ?_
                    rw [atKey_any]
                    obtain ⟨p, hp, e⟩ := List.mem_map.mp hx
                    exact List.any_eq_true.mpr ⟨p, hp, decide_eq_true e⟩
                  · rcases List.mem_append.mp hx with hx | hx
                    · exact (kt.keys x hx).mono ex
                    · rw [List.mem_singleton.mp hx]; exact hb.mono ex
                  · rw [List.map_append, List.map_append, km]; rfl
                  · rw [List.map_append]; exact vals_snoc ru vv
                  · rw [List.map_append]; exact (rs.mono ex).append (.cons (rv.mono ex) .nil)
              · cases hT
            · cases hT
          · cases hT
        | _ => simp [putX] at hT
      · exact p3.elim
/-- {}, to be changed: its keys ints and texts, or tuples of these -/
def eDctS : EF := fun _ S => .ok (.ob S.length) (S ++ [.dic []])
def eDttS : EF := fun _ S => .ok (.ob S.length) (S ++ [.dtt []])
theorem de_dctS {X : Cx} {W : WX} {pos : Pos} : DE X W (.Dict [] [] pos) eDctS := pe_wk pe_dnewK fun σ H Q ⟨φ, ρ, S, er, sr, p⟩ => fun q hq =>
  p (φ ++ [q]) _ _ (Ext.newSnoc hq) (sr.snoc hq ⟨[], upd_same, rfl, .nil⟩) (.ob (at_snoc sr q))
def tDNewX (P : Program) (w : World) : TE := fun _ H Q => ∀ p, H p = none → (p == sysModules) = false → Q (.ref p) (upd H p (DTx P w p []))
theorem pe_dnewX {X : Cx} {pos : Pos} : PE X (.Dict [] [] pos) (tDNewX X.prog X.w) := ⟨fun pins s σ H Q I h => by
  have hne : (s.heap.objs.size == sysModules) = false := beq_eq_false_iff_ne.mpr (Ne.symm (Nat.ne_of_lt I.big))
  exact wpAny_Dict_empty ⟨.ref s.heap.objs.size, _, I.laid (a := s.heap.objs.size) (o := DTx X.prog X.w s.heap.objs.size []) (t' := s.toks) (fun _ _ q => Heap.get?_push_of_some _ q) (Nat.le_refl _)
    ⟨⟨_, #[], 0, Heap.get?_push_size _ rfl, ⟨rfl, rfl, rfl⟩, rfl, rfl⟩, ⟨_, Heap.get?_push_size _ rfl⟩, fun g1 g2 ⟨o', es', ep', q1, q2, q3, q4⟩ k => ⟨o', es', ep', k _ q1, q2, q3, q4⟩⟩, rfl, h _ (I.hok.fresh (Nat.le_refl _)) hne⟩⟩
theorem de_dttS {X : Cx} {W : WX} {pos : Pos} : DE X W (.Dict [] [] pos) eDttS := pe_wk pe_dnewX fun σ H Q ⟨φ, ρ, S, er, sr, p⟩ => fun q hq hne =>
  p (φ ++ [q]) _ _ (Ext.newSnoc hq) (sr.snoc hq ⟨[], [], upd_same, ⟨Nat.zero_le _, hne, List.nodup_nil, fun x hx => by simp at hx⟩, rfl, .nil, .nil⟩) (.ob (at_snoc sr q))
end DV
set_option Elab.async false
set_option linter.all false
set_option maxRecDepth 100000
namespace DV
open PySem PySem.Spec PyProof.Rows L2
/-! ### x in y, for dicts, sets, lists and tuples of data, texts -/
section
variable {X : Cx}
def rInT (K : PySem.W.Frag) : R2 := fun x y H Q => ∃ d ds, Dp K H x d ∧ Dp K H y (.tuple ds) ∧ SeqAt.shaped d = true ∧ SeqAt.shaped (.tuple ds) = true ∧ Q (.bl (ds.any fun z => PyData.eqv z d)) H
def rNotInT (K : PySem.W.Frag) : R2 := fun x y H Q => ∃ d ds, Dp K H x d ∧ Dp K H y (.tuple ds) ∧ SeqAt.shaped d = true ∧ SeqAt.shaped (.tuple ds) = true ∧ Q (.bl (!ds.any fun z => PyData.eqv z d)) H
theorem op_inT (hu : X.A.units + 65 < cLine) : OpR X (compareOp .In) (rInT X.K) := by
  intro pins s σ H x y v u Q I rx ry h
  obtain ⟨d, ds, hd, he, sd, se, q⟩ := h
  obtain ⟨as, r1⟩ := Dp.reads I d x v hd rx
  obtain ⟨bs, r2⟩ := Dp.reads I (.tuple ds) y u he ry
  exact SeqAt.in_tuple_reads r2 r1 (SeqAt.canLay_of_shaped se) (SeqAt.canLay_of_shaped sd) (room_in_shaped sd hu) ⟨.bl _, H, I, rfl, q⟩
theorem op_notInT (hu : X.A.units + 65 < cLine) : OpR X (compareOp .NotIn) (rNotInT X.K) := by
  intro pins s σ H x y v u Q I rx ry h
  obtain ⟨d, ds, hd, he, sd, se, q⟩ := h
  obtain ⟨as, r1⟩ := Dp.reads I d x v hd rx
  obtain ⟨bs, r2⟩ := Dp.reads I (.tuple ds) y u he ry
  exact SeqAt.notIn_tuple_reads r2 r1 (SeqAt.canLay_of_shaped se) (SeqAt.canLay_of_shaped sd) (room_in_shaped sd hu) ⟨.bl _, H, I, rfl, q⟩
abbrev rSign (neg : Bool) : R2 := fun x y H Q => ∃ (c : Nat) (z : Str), x = .str ⟨#[c]⟩ ∧ y = .str z ∧ Q (.bl (if neg then !decide (c ∈ z.cps.toList) else decide (c ∈ z.cps.toList))) H
abbrev rInAll (P : Program) (w : World) (K : PySem.W.Frag) : R2 := fun x y H Q => (fun x y H Q => ∃ a o, y = .ref a ∧ XGet P w K H a x o ∧ Q (.bl o.isSome) H) x y H Q ∨ (fun x y H Q => rSInK P w false x y H Q ∨ (fun x y H Q => rInD K x y H Q ∨ (fun x y H Q => rInT K x y H Q ∨ rSign false x y H Q) x y H Q) x y H Q) x y H Q
abbrev rNotInAll (P : Program) (w : World) (K : PySem.W.Frag) : R2 := fun x y H Q => (fun x y H Q => ∃ a o, y = .ref a ∧ XGet P w K H a x o ∧ Q (.bl (!o.isSome)) H) x y H Q ∨ (fun x y H Q => rSInK P w true x y H Q ∨ (fun x y H Q => rNotInD K x y H Q ∨ (fun x y H Q => rNotInT K x y H Q ∨ rSign true x y H Q) x y H Q) x y H Q) x y H Q
theorem op_sign : OpR X (compareOp .In) (rSign false) := fun pins s σ H x y v u Q I rx ry ⟨c, z, e1, e2, q⟩ => op_in_sign pins s σ H x y v u Q I rx ry ⟨c, z, e1, e2, q⟩
theorem op_notSign : OpR X (compareOp .NotIn) (rSign true) := fun pins s σ H x y v u Q I rx ry ⟨c, z, e1, e2, q⟩ => op_notIn_sign pins s σ H x y v u Q I rx ry ⟨c, z, e1, e2, q⟩
theorem op_inAll (hu : X.A.units + 65 < cLine) : OpR X (compareOp .In) (rInAll X.prog X.w X.K) := OpR.or (op_inX (by omega)) (OpR.or or_sinK (OpR.or (op_inD hu) (OpR.or (op_inT hu) op_sign)))
theorem op_notInAll (hu : X.A.units + 65 < cLine) : OpR X (compareOp .NotIn) (rNotInAll X.prog X.w X.K) := OpR.or (op_notInX (by omega)) (OpR.or or_snotinK (OpR.or (op_notInD hu) (OpR.or (op_notInT hu) op_notSign)))
end
/-- is a among the data of b (a list or tuple) -/
def inP : PyData → PyData → Option Bool
  | x, .list ys => if SeqAt.shaped x && SeqAt.shaped (.list ys) then some (ys.any fun z => PyData.eqv z x) else none
  | x, .tuple ys => if SeqAt.shaped x && SeqAt.shaped (.tuple ys) then some (ys.any fun z => PyData.eqv z x) else none
  | .str x, .str z => if x.cps.size = 1 then some (decide (x.cps.getD 0 0 ∈ z.cps.toList)) else none
  | _, _ => none
def inSeq (a b : D) (S : Sto) : Option Bool := (pyOf 40 S a).bind fun x => (pyOf 40 S b).bind fun y => inP x y
def memX (a b : D) (S : Sto) : Option Bool := match getX b a S, setOf b S with
  | some o, _ => some o.isSome
  | none, some ks => (keyD a).map (inK ks)
  | none, none => inSeq a b S
def oInG (neg : Bool) : OF := fun a b S => match memX a b S with
  | some k => .ok (.bl (k != neg)) S
  | none => .no
def oIn : OF := oInG false
def oNotIn : OF := oInG true
theorem oInG_bl {n : Bool} : ∀ a b S d S', oInG n a b S = .ok d S' → ∃ k, d = .bl k := fun a b S d S' e => by
  unfold oInG at e
  split at e
  · cases e; exact ⟨_, rfl⟩
  · cases e
section
variable {K : PySem.W.Frag} {mg : MG} {φ : List Addr} {S : Sto} {H : Hp} {x y : V} {a b : D} {k : Bool}
theorem one_sign {x : Str} (h : x.cps.size = 1) : x = ⟨#[x.cps.getD 0 0]⟩ := by
  obtain ⟨⟨l⟩⟩ := x
  match l, h with
  | [c], _ => rfl
theorem memX_ok (s : Sr K mg φ S H) (ra : Rp K mg φ H x a) (rb : Rp K mg φ H y b) (h : memX a b S = some k) :
    (∃ l o, y = .ref l ∧ XGet mg.P mg.w K H l x o ∧ o.isSome = k) ∨ (∃ (ks : Key × List Key) (l : Addr), x = kV ks.1 ∧ y = .ref l ∧ H l = some (SetK mg.P mg.w l (inK ks.2) ks.2.length) ∧ inK ks.2 ks.1 = k) ∨
    (∃ d ds, Dp K H x d ∧ Dp K H y (.list ds) ∧ SeqAt.shaped d = true ∧ SeqAt.shaped (.list ds) = true ∧ (ds.any fun z => PyData.eqv z d) = k) ∨
    (∃ d ds, Dp K H x d ∧ Dp K H y (.tuple ds) ∧ SeqAt.shaped d = true ∧ SeqAt.shaped (.tuple ds) = true ∧ (ds.any fun z => PyData.eqv z d) = k) ∨ (∃ (c : Nat) (z : Str), x = .str ⟨#[c]⟩ ∧ y = .str z ∧ decide (c ∈ z.cps.toList) = k) := by
  unfold memX at h
  split at h
  · rename_i o ho
    cases h
    obtain ⟨l, ov, rfl, g, z⟩ := getX_ok s rb ra ho
    refine .inl ⟨l, ov, rfl, g, ?_⟩
    rcases z with ⟨rfl, rfl⟩ | ⟨u, e, rfl, rfl, _⟩ <;> rfl
  · rename_i ks h0 h1
    simp only [Option.map_eq_some_iff] at h
    obtain ⟨kk, hk, rfl⟩ := h
    obtain ⟨n, l, rfl, hn, rfl, nd, g⟩ := setOf_ok s rb h1
    exact .inr (.inl ⟨(kk, ks), l, keyD_ok ra hk, rfl, g, rfl⟩)
  · unfold inSeq at h
    obtain ⟨d, h1, h⟩ := Option.bind_eq_some_iff.mp h
    obtain ⟨e, h2, h⟩ := Option.bind_eq_some_iff.mp h
    have e1 := pyOf_ok s 40 _ _ _ ra h1
    have e2 := pyOf_ok s 40 _ _ _ rb h2
    cases e with
    | list ds =>
      simp only [inP] at h
      split at h
      · rename_i hz
        cases h
        obtain ⟨z1, z2⟩ := Bool.and_eq_true_iff.mp hz
        exact .inr (.inr (.inl ⟨d, ds, e1, e2, z1, z2, rfl⟩))
      · cases h
    | tuple ds =>
      simp only [inP] at h
      split at h
      · rename_i hz
        cases h
        obtain ⟨z1, z2⟩ := Bool.and_eq_true_iff.mp hz
        exact .inr (.inr (.inr (.inl ⟨d, ds, e1, e2, z1, z2, rfl⟩)))
      · cases h
    | str z =>
      cases d with
      | str c =>
        simp only [inP] at h
        split at h
        · rename_i hz
          cases h
          cases e1; cases e2
          exact .inr (.inr (.inr (.inr ⟨_, z, by rw [← one_sign hz], rfl, rfl⟩)))
        · cases h
      | _ => simp [inP] at h
    | _ => cases d <;> simp [inP] at h
theorem oIn_ok : Op2 K mg (rInAll mg.P mg.w K) oIn := fun W φ S H σ x y a b Q s ra rb p => by
  unfold oIn oInG at p
  split at p
  · rename_i k hk
    have fin : Q (.bl k) H := p φ H _ Ext.rfl' s (by rw [Bool.bne_false]; exact .bl _)
    rcases memX_ok s ra rb hk with ⟨l, o, e, g, z⟩ | ⟨ks, l, e1, e2, g, z⟩ | ⟨d, ds, h1, h2, h3, h4, z⟩ | ⟨d, ds, h1, h2, h3, h4, z⟩ | ⟨c, t, e1, e2, z⟩
    · exact .inl ⟨l, o, e, g, by rw [z]; exact fin⟩
    · exact .inr (.inl ⟨ks.1, l, _, _, e1, e2, g, by rw [z]; exact fin⟩)
    · exact .inr (.inr (.inl ⟨d, ds, h1, h2, h3, h4, by rw [z]; exact fin⟩))
    · exact .inr (.inr (.inr (.inl ⟨d, ds, h1, h2, h3, h4, by rw [z]; exact fin⟩)))
    · exact .inr (.inr (.inr (.inr ⟨c, t, e1, e2, by rw [z]; exact fin⟩)))
  · exact p.elim
theorem oNotIn_ok : Op2 K mg (rNotInAll mg.P mg.w K) oNotIn := fun W φ S H σ x y a b Q s ra rb p => by
  unfold oNotIn oInG at p
  split at p
  · rename_i k hk
    have fin : Q (.bl (!k)) H := p φ H _ Ext.rfl' s (by rw [Bool.bne_true]; exact .bl _)
    rcases memX_ok s ra rb hk with ⟨l, o, e, g, z⟩ | ⟨ks, l, e1, e2, g, z⟩ | ⟨d, ds, h1, h2, h3, h4, z⟩ | ⟨d, ds, h1, h2, h3, h4, z⟩ | ⟨c, t, e1, e2, z⟩
    · exact .inl ⟨l, o, e, g, by rw [z]; exact fin⟩
    · exact .inr (.inl ⟨ks.1, l, _, _, e1, e2, g, by rw [z]; exact fin⟩)
    · exact .inr (.inr (.inl ⟨d, ds, h1, h2, h3, h4, by rw [z]; exact fin⟩))
    · exact .inr (.inr (.inr (.inl ⟨d, ds, h1, h2, h3, h4, by rw [z]; exact fin⟩)))
    · exact .inr (.inr (.inr (.inr ⟨c, t, e1, e2, by rw [z]; exact fin⟩)))
  · exact p.elim
end
end DV
set_option Elab.async false
set_option linter.all false
set_option maxRecDepth 100000
namespace DV
open PySem PySem.Spec PyProof.Rows L2
/-! ### comprehensions of two clauses -/
def lc2In (it : Itd) (t : Tg) (c : TF) (e : EF) (ρ : Lc) (k : Nat) : Nat → Nat → Sto → Option Sto
  | n, i, S => match it.at' i S with
    | none => none
    | some none => some S
    | some (some d) => match n with
      | 0 => none
      | n + 1 => match t.put d ρ S with
        | none => none
        | some ρ1 => match c ρ1 S with
          | .ok false S2 => lc2In it t c e ρ k n (i + 1) S2
          | .ok true S2 => (match e ρ1 S2 with
            | .ok y S3 => (match S3[k]? with
              | some (.lst acc) => if szOk acc.length then lc2In it t c e ρ k n (i + 1) (S3.set k (.lst (acc ++ [y]))) else none
              | _ => none)
            | _ => none)
          | _ => none
def lc2Go (it : Itd) (t : Tg) (c : TF) (a1 : IF) (t1 : Tg) (c1 : TF) (e : EF) (own1 : List Nat) (ρ : Lc) (k : Nat) : Nat → Nat → Sto → Res D
  | n, i, S => match it.at' i S with
    | none => .no
    | some none => .ok (.ob k) S
    | some (some d) => match n with
      | 0 => .no
      | n + 1 => match t.put d ρ S with
        | none => .no
        | some ρ1 => match c ρ1 S with
          | .ok false S2 => lc2Go it t c a1 t1 c1 e own1 ρ k n (i + 1) S2
          | .ok true S2 => (match a1 ρ1 S2 with
            | .ok it1 S3 => (match lc2In it1 t1 c1 e (wipeD ρ1 own1) k (it1.size S3) 0 S3 with
              | some S4 => lc2Go it t c a1 t1 c1 e own1 ρ k n (i + 1) S4
              | none => .no)
            | _ => .no)
          | _ => .no
def eLc2S (a : IF) (t : Tg) (c : TF) (a1 : IF) (t1 : Tg) (c1 : TF) (e : EF) (own own1 : List Nat) : EF := fun ρ S => (a ρ S).bind fun it S1 => lc2Go it t c a1 t1 c1 e own1 (wipeD ρ own) S1.length (it.size S1) 0 (S1 ++ [.lst []])
def eLc2 (a : IF) (t : Tg) (c : TF) (a1 : IF) (t1 : Tg) (c1 : TF) (e : EF) (own own1 : List Nat) : EF := fun ρ S => (a ρ S).bind fun it S1 => dropR S1 (lc2Go it t c a1 t1 c1 e own1 (wipeD ρ own) S1.length (it.size S1) 0 (S1 ++ [.lst []]))
section
variable {X : Cx} {W : WX} {w : Expr} {gi gi1 : IF} {gt gt1 : TF} {fe : EF} {t t1 : Tg} {own own1 : List Nat}
theorem lc2_of (ho : ∀ j ∈ t.slots, j ∈ own) (ho1 : ∀ j ∈ t1.slots, j ∈ own1) (h11 : ∀ j ∈ own1, j ∈ own) {φ1 : List Addr} {ρ : Lc} {S1 : Sto} {H1 : Hp} {σ : L2.St} {Q : VK} {J : It} {it : Itd} (er : Er X.K X.M φ1 H1 σ ρ) (sr1 : Sr X.K X.M φ1 S1 H1) (r1 : ItR X.K X.M φ1 H1 J it)
    (p1 : post (Rp X.K X.M) X.K X.M W φ1 H1 σ Q (lc2Go it t gt gi1 t1 gt1 fe own1 (wipeD ρ own) S1.length (it.size S1) 0 (S1 ++ [.lst []]))) {Dn : Addr} (hD : H1 Dn = none) :
    ∃ Wz : Nat → Nat → Hp → Prop, (∃ m, Wz 0 m (upd H1 Dn (.lst []))) ∧ ∀ i m H, Wz i m H →
  (J.stop i H ∧ Q (.ref Dn) H) ∨ (J.go i H ∧ ∃ Nx : Hp → Prop, (∀ H', Nx H' → ∃ m', m' < m ∧ Wz (i + 1) m' H') ∧ ∀ x H', J.yld i H x H' → gOf X.K t x (wipe σ own) H' fun σ2 H2 => wipe σ2 own = wipe σ own ∧ lT X.K X.M wF gt σ2 H2 fun b H3 =>
    if b = true then lf (ItR X.K X.M) X.K X.M wF gi1 σ2 H3 fun J1 H4 => ∃ W1 : Nat → Nat → Hp → Prop, (∃ m, W1 0 m H4) ∧ ∀ j k H, W1 j k H →
      (J1.stop j H ∧ Nx H) ∨ (J1.go j H ∧ ∃ Nx1 : Hp → Prop, (∀ H', Nx1 H' → ∃ k', k' < k ∧ W1 (j + 1) k' H') ∧ ∀ x H', J1.yld j H x H' → gOf X.K t1 x (wipe σ2 own1) H' fun σ3 H5 => wipe σ3 own1 = wipe σ2 own1 ∧ lT X.K X.M wF gt1 σ3 H5 fun b H6 =>
        if b = true then lE X.K X.M wF fe σ3 H6 fun y H7 => ∃ acc, H7 Dn = some (.lst acc) ∧ acc.length < sizeLine ∧ Nx1 (upd H7 Dn (.lst (acc ++ [y]))) else Nx1 H6)
    else Nx H3) := by
  have eD := Ext.newSnoc (φ := φ1) (o := .lst []) hD
  have srD := sr1.snoc (o := .lst []) (u := .lst []) hD ⟨[], upd_same, .nil⟩
  refine ⟨fun i n H => ∃ φ S, Ext φ1 H1 φ H ∧ φ[S1.length]? = some Dn ∧ Sr X.K X.M φ S H ∧ post (Rp X.K X.M) X.K X.M W φ H σ Q (lc2Go it t gt gi1 t1 gt1 fe own1 (wipeD ρ own) S1.length n i S),
    ⟨it.size S1, φ1 ++ [Dn], _, eD, at_snoc sr1 Dn, srD, post.mono eD p1⟩, ?_⟩
  rintro i n H ⟨φ, S, ex, hk, sr, p⟩
  have J1 := r1 i φ S H ex sr
  unfold lc2Go at p
  cases ha : it.at' i S with
  | none => rw [ha] at p; exact p.elim
  | some o =>
    rw [ha] at p J1
    cases o with
    | none => exact .inl ⟨J1, p φ H _ Ext.rfl' sr (.ob hk)⟩
    | some d =>
      obtain ⟨go, yld⟩ := J1
      cases n with
      | zero => exact p.elim
      | succ n =>
        refine .inr ⟨go, fun H' => ∃ φ S, Ext φ1 H1 φ H' ∧ φ[S1.length]? = some Dn ∧ Sr X.K X.M φ S H' ∧ post (Rp X.K X.M) X.K X.M W φ H' σ Q (lc2Go it t gt gi1 t1 gt1 fe own1 (wipeD ρ own) S1.length n (i + 1) S), fun H' w => ⟨n, Nat.lt_succ_self n, w⟩, fun x H' hy => ?_⟩
        obtain ⟨ex2, sr2, rx⟩ := yld x H' hy
        simp only at p
        split at p
        · exact p.elim
        · rename_i ρ1 hp
          have erw := (er.mono (ex.trans ex2)).wipe own
          refine gOf_ok sr2 t x d (wipe σ own) (wipeD ρ own) ρ1 _ erw rx hp fun σ2 er2 sb => ⟨(sb.mono ho).wipe.trans wipe_wipe, φ, ρ1, S, er2, sr2, ?_⟩
          split at p
          · rename_i S2 hc
            rw [hc]
            intro φ3 H3 b e3 sr3 hb
            cases hb
            rw [if_neg Bool.false_ne_true]
            exact ⟨φ3, S2, (ex.trans ex2).trans e3, e3.pre _ _ hk, sr3, post.mono (ex2.trans e3) p⟩
          · rename_i S2 hc
            rw [hc]
            intro φ3 H3 b e3 sr3 hb
            cases hb
            rw [if_pos rfl]
            have er3 := er2.mono e3
            refine ⟨φ3, ρ1, S2, er3, sr3, ?_⟩
            split at p
            · rename_i it1 S3 hi1
              rw [hi1]
              intro φ4 H4 Jn e4 sr4 rJ
              split at p
              · rename_i S4 h4
                have er4 := er3.mono e4
                have hk4 := e4.pre _ _ (e3.pre _ _ hk)
                have ex4 := ((ex.trans ex2).trans e3).trans e4
                have pb := post.mono ((ex2.trans e3).trans e4) p
                refine ⟨fun j m H => ∃ φ T, Ext φ4 H4 φ H ∧ Sr X.K X.M φ T H ∧ lc2In it1 t1 gt1 fe (wipeD ρ1 own1) S1.length m j T = some S4, ⟨it1.size S3, φ4, S3, Ext.rfl', sr4, h4⟩, ?_⟩
                rintro j m Hj ⟨φ5, T, e5, sr5, h5⟩
                have J5 := rJ j φ5 T Hj e5 sr5
                unfold lc2In at h5
                cases ha1 : it1.at' j T with
                | none => rw [ha1] at h5; cases h5
                | some o1 =>
                  rw [ha1] at h5 J5
                  cases o1 with
                  | none =>
                    cases h5
                    exact .inl ⟨J5, φ5, _, ex4.trans e5, e5.pre _ _ hk4, sr5, post.mono e5 pb⟩
                  | some d1 =>
                    obtain ⟨go1, yld1⟩ := J5
                    cases m with
                    | zero => cases h5
                    | succ m =>
                      refine .inr ⟨go1, fun H' => ∃ φ T, Ext φ4 H4 φ H' ∧ Sr X.K X.M φ T H' ∧ lc2In it1 t1 gt1 fe (wipeD ρ1 own1) S1.length m (j + 1) T = some S4, fun H' w => ⟨m, Nat.lt_succ_self m, w⟩, fun x1 H6 hy1 => ?_⟩
                      obtain ⟨ex6, sr6, rx6⟩ := yld1 x1 H6 hy1
                      simp only at h5
                      split at h5
                      · cases h5
                      · rename_i ρ2 hp2
                        have erw2 := (er4.mono (e5.trans ex6)).wipe own1
                        refine gOf_ok sr6 t1 x1 d1 (wipe σ2 own1) (wipeD ρ1 own1) ρ2 _ erw2 rx6 hp2 fun σ3 er7 sb3 => ⟨(sb3.mono ho1).wipe.trans wipe_wipe, φ5, ρ2, T, er7, sr6, ?_⟩
                        split at h5
                        · rename_i T2 hc2
                          rw [hc2]
                          intro φ8 H8 b8 e8 sr8 hb8
                          cases hb8
                          rw [if_neg Bool.false_ne_true]
                          exact ⟨φ8, T2, (e5.trans ex6).trans e8, sr8, h5⟩
                        · rename_i T2 hc2
                          rw [hc2]
                          intro φ8 H8 b8 e8 sr8 hb8
                          cases hb8
                          rw [if_pos rfl]
                          refine ⟨φ8, ρ2, T2, er7.mono e8, sr8, ?_⟩
                          split at h5
                          · rename_i y T3 hy3
                            rw [hy3]
                            intro φ9 H9 yv e9 sr9 ry
                            split at h5
                            · rename_i acc hacc
                              split at h5
                              · rename_i hz
                                have hk9 := e9.pre _ _ (e8.pre _ _ (e5.pre _ _ hk4))
                                obtain ⟨us, g, rs⟩ := sr9.lst hk9 hacc
                                refine ⟨us, g, by rw [rs.length]; exact szOk.lt hz, ?_⟩
                                have exq : Ext φ9 H9 φ9 (upd H9 Dn (.lst (us ++ [yv]))) := Ext.put hk9
                                exact ⟨φ9, _, (((e5.trans ex6).trans e8).trans e9).trans exq, sr9.put (u := .lst (acc ++ [y])) hk9 ⟨_, upd_same, (rs.append (.cons ry .nil)).mono exq⟩, h5⟩
                              · cases h5
                            · cases h5
                          · cases h5
                        · cases h5
              · exact p.elim
            · exact p.elim
          · exact p.elim
theorem tLc2S_of (ho : ∀ j ∈ t.slots, j ∈ own) (ho1 : ∀ j ∈ t1.slots, j ∈ own1) (h11 : ∀ j ∈ own1, j ∈ own) : ∀ σ H Q, lE X.K X.M W (eLc2S gi t gt gi1 t1 gt1 fe own own1) σ H Q → tLc2 (lf (ItR X.K X.M) X.K X.M W gi) (gOf X.K t) (lT X.K X.M wF gt) (lf (ItR X.K X.M) X.K X.M wF gi1) (gOf X.K t1) (lT X.K X.M wF gt1) (lE X.K X.M wF fe) own own1 σ H Q := fun σ H Q ⟨φ, ρ, S, er, sr, p⟩ =>
  (lf.bind er sr p).imp fun J H1 ⟨φ1, S1, it, e1, sr1, r1, p1⟩ => fun Dn hD => lc2_of ho ho1 h11 (er.mono e1) sr1 r1 p1 hD
theorem tLc2_of (ho : ∀ j ∈ t.slots, j ∈ own) (ho1 : ∀ j ∈ t1.slots, j ∈ own1) (h11 : ∀ j ∈ own1, j ∈ own) : ∀ σ H Q, lE X.K X.M W (eLc2 gi t gt gi1 t1 gt1 fe own own1) σ H Q → tLc2 (lf (ItR X.K X.M) X.K X.M W gi) (gOf X.K t) (lT X.K X.M wF gt) (lf (ItR X.K X.M) X.K X.M wF gi1) (gOf X.K t1) (lT X.K X.M wF gt1) (lE X.K X.M wF fe) own own1 σ H Q := fun σ H Q ⟨φ, ρ, S, er, sr, p⟩ =>
  (lf.bind er sr p).imp fun J H1 ⟨φ1, S1, it, e1, sr1, r1, p1⟩ => fun Dn hD => lc2_of ho ho1 h11 (er.mono e1) sr1 r1 (post_drop sr1 p1) hD
theorem de_lc2 {own' own1' : List (Str × Nat)} (h : PE X w (tLc2 (lf (ItR X.K X.M) X.K X.M W gi) (gOf X.K t) (lT X.K X.M wF gt) (lf (ItR X.K X.M) X.K X.M wF gi1) (gOf X.K t1) (lT X.K X.M wF gt1) (lE X.K X.M wF fe) (own'.map (·.2)) own1)) (ho : ∀ j ∈ t.slots, j ∈ own'.map (·.2)) (ho1 : ∀ j ∈ t1.slots, j ∈ own1) (h11 : ∀ j ∈ own1, j ∈ own'.map (·.2)) :
    DE X W w (eLc2 gi t gt gi1 t1 gt1 fe (own'.map (·.2)) own1) := pe_wk h (tLc2_of ho ho1 h11)
theorem ds_setLc2 {st : Stmt} {i : Nat} {own' : List (Str × Nat)} (h : PS X st (L2.tAsg (tLc2 (lf (ItR X.K X.M) X.K X.M W gi) (gOf X.K t) (lT X.K X.M wF gt) (lf (ItR X.K X.M) X.K X.M wF gi1) (gOf X.K t1) (lT X.K X.M wF gt1) (lE X.K X.M wF fe) (own'.map (·.2)) own1) (gName i))) (ho : ∀ j ∈ t.slots, j ∈ own'.map (·.2)) (ho1 : ∀ j ∈ t1.slots, j ∈ own1) (h11 : ∀ j ∈ own1, j ∈ own'.map (·.2)) :
    DS X W st (sAsg (.nm i) (eLc2 gi t gt gi1 t1 gt1 fe (own'.map (·.2)) own1)) :=
  ds_asg (ps_wk h fun N σ H z => tLc2_of ho ho1 h11 σ H _ (z.imp fun x H1 q => by unfold gOf at q; exact q))
end
end DV
set_option Elab.async false
set_option linter.all false
set_option maxRecDepth 100000
namespace DV
open PySem PySem.Spec PyProof.Rows L2
/-! ### texts' tests; a list's insert; divmod; a call by a target's field -/
def eS0 (g : Str → Bool) (a : EF) : EF := fun ρ S => (a ρ S).bind fun d S1 => match d with
  | .str s => .ok (.bl (g s)) S1
  | _ => .no
theorem de_s0 {X : Cx} {W : WX} {w : Expr} {fa : EF} {g : Str → Bool} (h : PE X w (tBM0 X.K "str" (fun x xs H Q => ∃ a, x = .str a ∧ xs = [] ∧ True ∧ Q (.bl (g a)) H) (lE X.K X.M W fa))) : DE X W w (eS0 g fa) :=
  pe_wk h fun σ H Q ⟨φ, ρ, S, er, sr, p⟩ => (lf.bind er sr p).imp fun x H1 ⟨φ1, S1, d, e1, sr1, r1, p1⟩ => by
    split at p1
    · cases r1
      exact ⟨rfl, _, rfl, rfl, trivial, p1 φ1 H1 _ Ext.rfl' sr1 (.bl _)⟩
    · exact p1.elim
/-- xs.insert(i, y) -/
def eIns (a i b : EF) : EF := fun ρ S => (a ρ S).bind fun l S1 => match lstOf l S1 with
  | some _ => (i ρ S1).bind fun j S2 => (b ρ S2).bind fun d S3 => (match l, lstOf l S3, j with
    | .ob n, some xs, .int j => if gd (0 ≤ j ∧ j < 2 ^ 62 ∧ xs.length < 1000000) then .ok .non (S3.set n (.lst (xs.take j.toNat ++ [d] ++ xs.drop j.toNat))) else .no
    | _, _, _ => .no)
  | none => .no
theorem de_ins {X : Cx} {W : WX} {w : Expr} {fa fi fb : EF} (h : PE X w (tBM X.K "list" (fun x vs H Q => ∃ (l : Addr) (xs : List V) (i : Int) (y : V), x = .ref l ∧ vs = [.int i, y] ∧ H l = some (.lst xs) ∧ xs.length < sizeLine ∧ 0 ≤ i ∧ i < 2 ^ 63 ∧
    Q .non (upd H l (.lst (xs.take i.toNat ++ [y] ++ xs.drop i.toNat)))) (lE X.K X.M W fa) (tCons (lE X.K X.M W fi) (tCons (lE X.K X.M W fb) tNil)))) : DE X W w (eIns fa fi fb) := pe_wk h fun σ H Q ⟨φ, ρ, S, er, sr, p⟩ =>
  (lf.bind er sr p).imp fun x H1 ⟨φ1, S1, d, e1, sr1, r1, p1⟩ => by
    split at p1
    · rename_i xs0 h0
      obtain ⟨a, us, rfl, g, rs⟩ := lstOf_ok sr1 r1 h0
      refine ⟨.inl ⟨rfl, _, .of g⟩, (lf.bind (er.mono e1) sr1 p1).imp fun y H2 ⟨φ2, S2, d2, e2, sr2, r2, p2⟩ => (lf.bind ((er.mono e1).mono e2) sr2 p2).imp fun z H3 ⟨φ3, S3, d3, e3, sr3, r3, p3⟩ => ?_⟩
      cases d with
      | ob n =>
        cases d2 with
        | int j =>
          cases hx : lstOf (.ob n) S3 with
          | none => rw [hx] at p3; exact p3.elim
          | some xs =>
            rw [hx] at p3
            simp only at p3
            split at p3
            · rename_i hg
              obtain ⟨g0, g1, g2⟩ := of_gd hg
              have r1' := (r1.mono e2).mono e3
              obtain ⟨a', us', ev, g', rs'⟩ := lstOf_ok sr3 r1' hx
              cases ev
              cases r2
              obtain hn : φ3[n]? = some a := by cases r1'; assumption
              have ex : Ext φ3 H3 φ3 (upd H3 a (.lst (us'.take j.toNat ++ [z] ++ us'.drop j.toNat))) := Ext.put hn
              refine ⟨a, us', j, z, rfl, rfl, g', by rw [rs'.length, sizeLine_eq]; omega, g0, by omega, ?_⟩
              refine p3 φ3 _ _ ex (sr3.put hn ⟨_, upd_same, ?_⟩) .non
              exact (((rs'.take _).append (.cons r3 .nil)).append (rs'.drop _)).mono ex
            · exact p3.elim
        | _ => cases hx : lstOf (.ob n) S3 <;> rw [hx] at p3 <;> exact p3.elim
      | _ => exact p3.elim
    · exact p1.elim
/-- divmod of ints -/
def cDivmod : FF
  | [.int i, .int j], S => if divOk i j && gd (0 < j) then .ok (.tup [.int (i / j), .int (i % j)]) S else .no
  | _, _ => .no
end DV
namespace DV
open PySem PySem.Spec PyProof.Rows L2
theorem call_divmodQ {X : Cx} : CallR X (.builtin "divmod") (fun xs H Q => ∃ i j, xs = [.int i, .int j] ∧ CDivQ i j ∧ 0 < j ∧ ∀ p, H p = none → Q (.ref p) (upd H p (.tup [.int (i / j), .int (i % j)]))) := by
  intro pins s σ H xs us Q I r h
  obtain ⟨i, j, rfl, ⟨h1, h2⟩, h0, q⟩ := h
  obtain ⟨u, w', rfl, ⟨t, rfl⟩, ⟨t', rfl⟩⟩ := vals2 r
  refine divmod_int h1 ?_ (.inl h2)
  rw [Int.fdiv_eq_ediv_of_nonneg i (by omega), Int.fmod_eq_emod_of_nonneg i (by omega)]
  have hn : H s.heap.objs.size = none := I.hok.fresh (Nat.le_refl _)
  refine ⟨.ref s.heap.objs.size, _, ?_, rfl, q _ hn⟩
  refine I.laid (fun b o e => Heap.get?_push_of_some _ e) (Nat.le_refl _) ⟨by simp only [List.length_cons, List.length_nil]; rw [sizeLine_eq]; decide, [.int (i / j) s.toks, .int (i % j) (s.toks + 1)], .cons ⟨_, rfl⟩ (.cons ⟨_, rfl⟩ .nil), ?_⟩
  exact ⟨_, Heap.get?_push_size s.heap rfl, rfl, 0, rfl⟩
theorem cDivmod_ok {K : PySem.W.Frag} {mg : MG} : Cal K mg (fun xs H Q => ∃ i j, xs = [.int i, .int j] ∧ CDivQ i j ∧ 0 < j ∧ ∀ p, H p = none → Q (.ref p) (upd H p (.tup [.int (i / j), .int (i % j)]))) cDivmod := fun W φ S H σ xs ds Q s r p => by
  unfold cDivmod at p
  split at p
  · rename_i i j
    split at p
    · rename_i hz
      obtain ⟨z1, z2⟩ := Bool.and_eq_true_iff.mp hz
      cases r with
      | cons r1 r =>
        cases r with
        | cons r2 r =>
          cases r
          cases r1; cases r2
          exact ⟨i, j, rfl, of_gd z1, of_gd z2, fun q hq => p φ _ _ (Ext.new hq) (s.new hq) (.tup (.inl (s.im hq)) (.cons (.int _) (.cons (.int _) .nil)))⟩
    · exact p.elim
  · exact p.elim
/-! ### a field as a target; classes of the text -/
def gFldT (K : PySem.W.Frag) (to : TE) (f : Str) : TG := fun v σ H Q => to σ H fun x H1 => ∃ a C dx fs, x = .ref a ∧ H1 a = some (.ins C dx fs) ∧ Cls K C ∧ NoAttr K C f ∧ fs.length < 1000 ∧ Q σ (upd H1 a (.ins C dx (putF f v fs)))
theorem pg_fld {X : Cx} {o : Expr} {f : Str} {to : TE} {pos : Pos} (ho : PE X o to)
    (ha : ∀ v, assign (.Attribute o f pos) X.env v = (do
      let ov ← holding [v] (eval o X.env)
      standAt pos.atName
      holding [v, ov] (setAttr ov f v)
      release [v, ov] []) := by intro _; rfl) : PG X (.Attribute o f pos) (gFldT X.K to f) := by
  refine ⟨fun pins s σ H v u Q I r h => ?_⟩
  rw [ha]
  refine wpAny_bind (wpAny_holding (thn (ho.run pins s σ H _ I h) fun ov s1 ⟨x, H1, I1, r1, a, C, dx, fs, ex, ea, c, n, l, q⟩ => ?_))
  subst ex
  obtain rfl : ov = Value.ref a := r1
  refine wpAny_bind (wpAny_standAt (wpAny_bind (wpAny_holding (setattr_ok I1 ea c n l r fun s3 I3 => ?_))))
  exact wpAny_release ⟨σ, _, I3, q⟩
end DV
set_option Elab.async false
set_option linter.all false
set_option maxRecDepth 100000
namespace DV
open PySem PySem.Spec PyProof.Rows L2
/-- x, o.f = e, a pair -/
def sAsgNF (i : Nat) (c f : Str) (a o : EF) : SF := fun ρ S => (a ρ S).sb ρ fun d S1 => match d with
  | .tup [x, y] => (o (ρ.set i (some x)) S1).sb (ρ.set i (some x)) fun t S2 => match putI c f t y S2 with
    | some S3 => .nx (ρ.set i (some x)) S3
    | none => .no
  | _ => .no
theorem ds_asgNF {X : Cx} {W : WX} {st : Stmt} {i : Nat} {c f : Str} {fields : List Str} {fa fo : EF} (hI : IC X.K X.mg c fields) (hf : f ∈ fields)
    (h : PS X st (L2.tAsg (lE X.K X.M W fa) (gTup X.K 2 (gCons (gName i) (gCons (gFldT X.K (lE X.K X.M W fo) f) gNil))))) : DS X W st (sAsgNF i c f fa fo) :=
  ps_wk h fun N σ H ⟨φ, ρ, S, er, sr, p⟩ => (lf.sb er sr p).imp fun x H1 ⟨φ1, S1, d, e1, sr1, r1, p1⟩ => by
    split at p1
    · rename_i d0 d1
      cases r1 with
      | tup t rs =>
        cases rs with
        | cons r2 rs =>
          cases rs with
          | cons r3 rs =>
            cases rs
            rename_i v0 v1
            have er1 := (er.mono e1).set r2 i
            refine ⟨_, _, rfl, t.sq, rfl, v0, [v1], rfl, v1, [], rfl, ?_⟩
            refine (lf.sb er1 sr1 p1).imp fun y H2 ⟨φ2, S2, t2, e2, sr2, r4, p2⟩ => ?_
            split at p2
            · rename_i T hT
              obtain ⟨a, C, dx, fs, rfl, g, tt, hl, ex, sT⟩ := putI_ok sr2 r4 (r3.mono e2) hT
              obtain ⟨C', g', cl, na⟩ := hI.ex
              cases g.symm.trans g'
              exact ⟨a, C, dx, fs, rfl, tt, cl, na f hf, hl, rfl, p2 φ2 _ _ ex sT ((er1.mono e2).mono ex)⟩
            · exact p2.elim
    · exact p1.elim
/-! ### methods, as the top has left them -/
def MAt (K : PySem.W.Frag) (mg : Str → Option Value) (c m qual : Str) (st : Stmt) (ps : List Str) : Prop :=
  ∃ C a fd, Fun K m qual st a fd ∧ mg c = some (.ref C) ∧ Cls K C ∧ Meth K C m a ∧ Binds K fd ps []
def KAt (K : PySem.W.Frag) (mg : Str → Option Value) (c qual : Str) (st : Stmt) (ps : List Str) : Prop :=
  ∃ C a fd, Fun K "__init__" qual st a fd ∧ mg c = some (.ref C) ∧ Mk K C a ∧ Binds K fd ps []
section
variable {P : Program} {w : World} {K : PySem.W.Frag} {mg : Str → Option Value} {base : Heap} {c m qual : Str} {st : Stmt} {N ps : List Str} {k : Nat} {b : SF}
theorem mdef_okT (A : MAt K mg c m qual st ps) (S : FnScope N ps (defScope st))
    (hb : ∀ (f : Addr) (cdv : Value) (A : Around) (outer : List Env) (s : Shared) (H : Hp) (E : XK), Takes (cxOf (L2.CX P w) P w K mg base N qual (defScope st) f cdv A outer s H E) (WExc E) →
      PassesOwn (model P w) (A.deeper (envOfC qual (defScope st) s.heap.objs.size f cdv)) (envOfC qual (defScope st) s.heap.objs.size f cdv) (cxOf (L2.CX P w) P w K mg base N qual (defScope st) f cdv A outer s H E).xe →
      Room k (A.deeper (envOfC qual (defScope st) s.heap.objs.size f cdv)) → DSs (cxOf (L2.CX P w) P w K mg base N qual (defScope st) f cdv A outer s H E) (WExc E) (defBody st) b) : MDef P w K mg base c m ps (k + 1) ps.length (runF N.length ps.length b) := by
  obtain ⟨C, a, fd, F, g, cl, me, bi⟩ := A
  exact ⟨C, a, fd, g, cl, me, fn_ok F S fun cdv A outer s H E hr => hb a cdv A outer s H E (takes_of rfl rfl rfl rfl) (passes_of rfl) hr, bi⟩
theorem kdef_okT (A : KAt K mg c qual st ps) (S : FnScope N ps (defScope st))
    (hb : ∀ (f : Addr) (cdv : Value) (A : Around) (outer : List Env) (s : Shared) (H : Hp) (E : XK), Takes (cxOf (L2.CX P w) P w K mg base N qual (defScope st) f cdv A outer s H E) (WExc E) →
      PassesOwn (model P w) (A.deeper (envOfC qual (defScope st) s.heap.objs.size f cdv)) (envOfC qual (defScope st) s.heap.objs.size f cdv) (cxOf (L2.CX P w) P w K mg base N qual (defScope st) f cdv A outer s H E).xe →
      Room k (A.deeper (envOfC qual (defScope st) s.heap.objs.size f cdv)) → DSs (cxOf (L2.CX P w) P w K mg base N qual (defScope st) f cdv A outer s H E) (WExc E) (defBody st) b) : KDef P w K mg base c ps (k + 1) ps.length (runK N.length ps.length b) := by
  obtain ⟨C, a, fd, F, g, mk, bi⟩ := A
  exact ⟨C, a, fd, g, mk, fn_okK F S fun cdv A outer s H E hr => hb a cdv A outer s H E (takes_of rfl rfl rfl rfl) (passes_of rfl) hr, bi⟩
end
section
variable {K : PySem.W.Frag} {h : Heap} {mg : Str → Option Value} {c m qual : Str} {st : Stmt} {f C : Addr} {ps : List Str} {oc : Value} {od an : Option Addr} {osl : Array (Option Value)} {kV doc pm cdv ct : Value}
theorem mat_mk (X : K.In h) (G : h.Ns mainGlobals mg) (a : PySem.W.nsIn K mainGlobals c = some (some (.ref C))) (cl : Cls K C) (at_ : PySem.W.findIn K (.ref C) m = some (some (.ref f))) (fn : PySem.W.isFn K (.ref f) = true)
    (l : K.lookup f = some ⟨oc, od, .func (PySem.W.fnOf m qual (defArgs st) (defBody st) (defScope st) .none kV doc pm an cdv ct), osl⟩) (cc : PySem.W.codeIn K cdv qual = true) (k : PySem.W.keepIn K (.ref f) = true)
    (hb : ∀ (kV doc pm : Value) (an : Option Addr) (cdv ct : Value) (us : List Value), us.length = ps.length → bindArgs (PySem.W.fnOf m qual (defArgs st) (defBody st) (defScope st) .none kV doc pm an cdv ct) ⟨us, []⟩ = pure (ps.zip us)) : MAt K mg c m qual st ps :=
  ⟨C, f, _, fun_mk l cc k, PySem.W.mg_of X G a, cl, ⟨at_, fn, k⟩, (fun_mk l cc k).binds hb⟩
theorem kat_mk (X : K.In h) (G : h.Ns mainGlobals mg) (a : PySem.W.nsIn K mainGlobals c = some (some (.ref C))) (mk : PySem.W.makesIn K C = true) (kp : PySem.W.keepIn K (.ref C) = true) (at_ : PySem.W.findIn K (.ref C) "__init__" = some (some (.ref f))) (fn : PySem.W.isFn K (.ref f) = true)
    (l : K.lookup f = some ⟨oc, od, .func (PySem.W.fnOf "__init__" qual (defArgs st) (defBody st) (defScope st) .none kV doc pm an cdv ct), osl⟩) (cc : PySem.W.codeIn K cdv qual = true) (k : PySem.W.keepIn K (.ref f) = true)
    (hb : ∀ (kV doc pm : Value) (an : Option Addr) (cdv ct : Value) (us : List Value), us.length = ps.length → bindArgs (PySem.W.fnOf "__init__" qual (defArgs st) (defBody st) (defScope st) .none kV doc pm an cdv ct) ⟨us, []⟩ = pure (ps.zip us)) : KAt K mg c qual st ps :=
  ⟨C, f, _, fun_mk l cc k, PySem.W.mg_of X G a, ⟨mk, at_, fn, kp⟩, (fun_mk l cc k).binds hb⟩
theorem ic_mk {fields : List Str} (X : K.In h) (G : h.Ns mainGlobals mg) (a : PySem.W.nsIn K mainGlobals c = some (some (.ref C))) (cl : Cls K C) (na : ∀ f ∈ fields, NoAttr K C f) : IC K mg c fields := ⟨⟨C, PySem.W.mg_of X G a, cl, na⟩⟩
theorem na_nil {C : Addr} : ∀ f ∈ ([] : List Str), NoAttr K C f := fun f h => by simp at h
theorem na_cons {C : Addr} {f : Str} {fs : List Str} (h : PySem.W.findIn K (.ref C) f = some none) (t : ∀ g ∈ fs, NoAttr K C g) : ∀ g ∈ f :: fs, NoAttr K C g := fun g hg => by
  rcases List.mem_cons.mp hg with e | hg
  · subst e; exact h
  · exact t g hg
end
end DV
namespace DV
open PySem
def clsStmt (s : Stmt) (j : Nat) : Stmt := match s with
  | .ClassDef _ _ _ b _ _ _ _ _ _ _ => b.getD j (.Pass ⟨0, 0, 0, 0⟩)
  | _ => .Pass ⟨0, 0, 0, 0⟩
end DV
theorem L2.Room.u65 {k : Nat} {A : PySem.Around} (r : L2.Room k A) : A.units + 65 < PySem.cLine := by have := r.un; omega
theorem L2H.RoomH.u65 {k : Nat} {A : PySem.Around} (r : L2H.RoomH k A) : A.units + 65 < PySem.cLine := by have := r.un; omega
theorem L2.Room.u1 {k : Nat} {A : PySem.Around} (r : L2.Room k A) : A.units + 1 < PySem.cLine := by have := r.un; omega
theorem L2H.RoomH.u1 {k : Nat} {A : PySem.Around} (r : L2H.RoomH k A) : A.units + 1 < PySem.cLine := by have := r.un; omega
set_option Elab.async false
set_option linter.all false
set_option maxRecDepth 100000
/-! sets that a comprehension makes, of ints and texts -/
namespace DV
open PySem PySem.Spec PyProof.Rows L2 PpSet
section
variable {X : Cx}
/-- what is wanted of {elt for t in iter if ..}: its set at Z, whose keys are added turn by turn -/
def tKS (P : Program) (w : World) (wi : TI) (g : TG) (tt : TT) (te : TE) (vs : List Nat) : TE := fun σ H Q =>
  wi σ H fun J H1 => ∀ Z, H1 Z = none → ∃ V : Nat → Nat → Hp → Prop,
    (∃ m, V 0 m (upd H1 Z (SetK P w Z (fun _ => false) 0))) ∧ ∀ i m G, V i m G →
      (J.stop i G ∧ Q (.ref Z) G) ∨
      (J.go i G ∧ ∃ Y : Hp → Prop, (∀ G', Y G' → ∃ l, l < m ∧ V (i + 1) l G') ∧
        ∀ x G', J.yld i G x G' → g x (wipe σ vs) G' fun τ G2 => wipe τ vs = wipe σ vs ∧ tt τ G2 fun b G3 =>
          if b = true then te τ G3 fun y G4 => ∃ (k : Key) (S : Key → Bool) (n : Nat),
            y = kV k ∧ G4 Z = some (SetK P w Z S n) ∧ n + 1 < scanBound ∧
            Y (upd G4 Z (SetK P w Z (fun j => S j || decide (j = k)) (if S k = true then n else n + 1)))
          else Y G3)
/-- the comprehension itself; what comes behind it is told by `fin` -/
theorem ks_all {pins : List (Addr × Obj)} {s0 : Shared} {σ : L2.St} {H : Hp} {Q : VK} {elt tg iter : Expr} {ifs : List Expr} {scope : Scope} {own : List (PySem.Str × Nat)} {pos at0 : Pos} {wi : TI} {g : TG} {tt : TT} {te : TE} {use : Option (Value → Sem Unit)} {Out : Value → Shared → Prop}
    (inv : Inv X pins σ H s0) (calm : X.calm = true) (nd : X.N.Nodup) (pi : PI X tg iter wi) (blk : BlkOk X.N X.env.scope scope own)
    (pg : ∀ (s : Shared) (H : Hp) (C : Addr) (cl : List (PySem.Str × Addr)) (fp : List Addr), PG (X.blk s H scope (compEnvC scope cl C X.env) fp) tg g)
    (pt : ∀ (s : Shared) (H : Hp) (C : Addr) (cl : List (PySem.Str × Addr)) (fp : List Addr), PTs (X.blk s H scope (compEnvC scope cl C X.env) fp) ifs tt)
    (pe : ∀ (s : Shared) (H : Hp) (C : Addr) (cl : List (PySem.Str × Addr)) (fp : List Addr), PE (X.blk s H scope (compEnvC scope cl C X.env) fp) elt te)
    (plain : ∀ x, foldedSetIterable iter X.env x = pure x) (want : tKS X.prog X.w wi g tt te (own.map (·.2)) σ H Q)
    (fin : ∀ Z C u m G, Inv X pins σ G u → Q (.ref Z) G → u.heap.Ns C m → FpOk X pins G C → compPost (model X.prog X.w) X.A X.xe use Out (.ref Z) C (.ok .next) u) :
    wpAny (model X.prog X.w) X.A (comprehension (.SetComp elt [⟨tg, iter, ifs, 0⟩] scope pos) scope X.env at0 (newSet (.type "set")) false (eval iter X.env) use) Out X.xe s0 := by
  have caught : ∀ y ∈ scope.names, y.2 = .free → ∃ c, X.env.cells.lookup y.1 = some c := fun y hy e =>
    (blk.free y hy e).elim (fun k => inv.ok.has _ (.inl k)) fun k => inv.ok.has _ (.inr k)
  refine wpAny_comprehension_free (use := use) rfl plain (closure_ok caught) blk.kind (fun y hy e => by rw [blk.uniq y hy, e]) ?_
  refine thn (pi.run pins s0 σ H _ inv want) fun xv s1 got => thn got fun itv s2 ⟨it, fp, tn, J, H2, ev, inv2, T, at2, foot2, rest⟩ => ?_
  subst ev
  refine newSet_ok (newEnv_comp ?_)
  generalize hZ : s2.heap.objs.size = Z
  have free2 : H2 Z = none := inv2.hok.fresh (Nat.le_of_eq hZ)
  obtain ⟨V, ⟨m0, v0⟩, turn⟩ := rest Z free2
  -- the new set stands at Z
  generalize hs3 : ({ s2 with heap := s2.heap.push { cls := .type "set", dict := none, data := .set #[] 0 (.fresh 0 0 (!X.w.params.followText "set-order")) } } : Shared) = s3
  have inv3 : Inv X pins σ (upd H2 Z (SetK X.prog X.w Z (fun _ => false) 0)) s3 := by
    subst hs3
    refine inv2.laid (t' := s2.toks) (fun b o e => Heap.get?_push_of_some _ e) (Nat.le_of_eq hZ) ?_
    subst hZ
    exact setK_new ⟨_, #[], 0, _, Heap.get?_push_size _ rfl, ⟨rfl, rfl, rfl⟩, rfl, (fun e he => by simp at he), (fun k => by simp), (by decide), (by rfl), rfl⟩
  have heap3 : s3.heap = s2.heap.push { cls := .type "set", dict := none, data := .set #[] 0 (.fresh 0 0 (!X.w.params.followText "set-order")) } := by subst hs3; rfl
  have below : ∀ b ∈ fp, b < s2.heap.objs.size := fun b hb => let ⟨o, e, _⟩ := T.obj _ _ at2 b hb; Heap.lt_size e
  have foot3 : ∀ b ∈ fp, FpOk X pins (upd H2 Z (SetK X.prog X.w Z (fun _ => false) 0)) b ∧ b < s3.heap.objs.size := fun b hb =>
    have lt := below b hb
    ⟨⟨by rw [upd_ne (by rw [← hZ]; exact Nat.ne_of_lt lt)]; exact (foot2 b hb).1, (foot2 b hb).2⟩, by rw [heap3, Heap.size_push]; exact Nat.lt_succ_of_lt lt⟩
  have at3 : tn 0 s3.heap := T.keep _ _ _ at2 fun b _ o e => by rw [heap3]; exact Heap.get?_push_of_some _ e
  generalize hH3 : upd H2 Z (SetK X.prog X.w Z (fun _ => false) 0) = H3 at inv3 v0 foot3
  have none3 : ∀ b ∈ fp, H3 b = none := fun b hb => (foot3 b hb).1.1
  have inv4 := block_start inv3 blk nd foot3
  show codeAny _ _ (.compStart (.SetComp elt [⟨tg, iter, ifs, 0⟩] scope pos) 0 (.ref it) (.ref Z) (compEnvC scope (cellsFrom (s3.heap.objs.size + 1) scope.names (cloFrom X.env.cells scope.names [])) s3.heap.objs.size X.env)) (compPost (model X.prog X.w) X.A X.xe use Out (.ref Z) s3.heap.objs.size) { s3 with heap := pushCells (s3.heap.push { cls := .type "dict", data := .dict #[] }) scope.names }
  have pg' := pg s3 H3 s3.heap.objs.size (cellsFrom (s3.heap.objs.size + 1) scope.names (cloFrom X.env.cells scope.names [])) fp
  have pt' := pt s3 H3 s3.heap.objs.size (cellsFrom (s3.heap.objs.size + 1) scope.names (cloFrom X.env.cells scope.names [])) fp
  have pe' := pe s3 H3 s3.heap.objs.size (cellsFrom (s3.heap.objs.size + 1) scope.names (cloFrom X.env.cells scope.names [])) fp
  generalize hin : compEnvC scope (cellsFrom (s3.heap.objs.size + 1) scope.names (cloFrom X.env.cells scope.names [])) s3.heap.objs.size X.env = inn at inv4 pg' pt' pe' ⊢
  have locs : inn.locals = s3.heap.objs.size := by subst hin; rfl
  generalize hs4 : ({ s3 with heap := pushCells (s3.heap.push { cls := .type "dict", data := .dict #[] }) scope.names } : Shared) = s4 at inv4 ⊢
  have at4 : tn 0 s4.heap := T.keep _ _ _ at3 fun b _ o e => by subst hs4; exact pushCells_keeps _ _ _ _ (Heap.get?_push_of_some _ e)
  have stays : ∀ {τ : L2.St} {G : Hp} {u : Shared}, Inv (X.blk s3 H3 scope inn fp) [] τ G u → (∀ b ∈ fp, G b = none) → ∀ b ∈ fp, FpOk (X.blk s3 H3 scope inn fp) [] G b := fun {τ G u} iv hn b hb =>
    ⟨hn b hb, (iv.ok.exf b hb).1, iv.ok.exfs b hb, .inl hb, fun x c e => (iv.ok.exf b hb).2 x c e, fun p hp => absurd (show p ∈ ([] : List (Addr × Obj)) ++ [] from hp) (by simp)⟩
  refine codeAny_compStart_set ?loop (T.self X.A 0 _ _ _ at4 ?loop)
  refine compLoopS_any (fun n u => ∃ i G, Inv (X.blk s3 H3 scope inn fp) [] (wipe σ (own.map (·.2))) G u ∧ tn i u.heap ∧ (∀ b ∈ fp, G b = none) ∧ V i n G) ?_ m0 ⟨0, H3, inv4, at4, none3, v0⟩
  rintro n s5 ⟨i, H5, inv5, at5, none5, v5⟩
  rcases turn i n H5 v5 with ⟨stop, over⟩ | ⟨go, Y, less, step⟩
  · refine thnF (T.done (X.blk s3 H3 scope inn fp) rfl rfl rfl calm i [] s5 _ H5 (fun _ _ => False) inv5 (stays inv5 none5) at5 stop) fun r s6 ⟨er, inv6⟩ => ?_
    subst er
    have inv7 : Inv X pins σ H5 s6 := inv3.call' (ch := fp) inv6.os inv6.base inv6.hok inv6.bare fun b hb => ⟨(foot3 b hb).1.2.2.2.1, (foot3 b hb).1.2.1, (foot3 b hb).1.2.2.2.2.1, (foot3 b hb).1.2.2.2.2.2⟩
    have freeL : H5 s3.heap.objs.size = none := by
      have z : H5 inn.locals = none := inv6.free
      rwa [locs] at z
    obtain ⟨m, named, _⟩ := inv6.loc
    have named : s6.heap.Ns inn.locals m := named
    rw [locs] at named
    exact fin Z s3.heap.objs.size s6 m H5 inv7 over named (inv3.fpOk (Nat.le_refl _) freeL)
  · refine thnF (T.item (X.blk s3 H3 scope inn fp) rfl rfl rfl calm i [] s5 _ H5 (fun _ _ => False) inv5 (stays inv5 none5) at5 go) fun r s6 ⟨u, er, got⟩ => ?_
    subst er
    refine thnF got fun _ s7 ⟨x, H7, inv7, rx, yx, at7, none7⟩ => ?_
    have held := inv7.pinned (stays inv7 none7) (T.obj _ _ at7)
    refine thnF (pg'.run _ s7 _ H7 x u _ held rx (step x H7 yx)) fun _ s8 ⟨τ, H8, inv8, same8, q8⟩ => ?_
    refine thnF (pt'.run _ s8 τ H8 _ inv8 q8) fun b s9 ⟨H9, inv9, q9⟩ => ?_
    have back : ∀ {v : Shared} {G : Hp}, Inv (X.blk s3 H3 scope inn fp) ([] ++ pinsAt fp s7.heap) τ G v → Y G → ∃ l, l < n ∧ ∃ i G, Inv (X.blk s3 H3 scope inn fp) [] (wipe σ (own.map (·.2))) G v ∧ tn i v.heap ∧ (∀ b ∈ fp, G b = none) ∧ V i l G := fun {v G} iv yG => by
      obtain ⟨l, hl, vl⟩ := less G yG
      have keeps : ∀ b ∈ fp, ∀ o, s7.heap.get? b = some o → v.heap.get? b = some o ∧ G b = none := fun b hb o e =>
        let z := iv.pin (b, o) (List.mem_append_right _ (List.mem_append_right _ (mem_pinsAt hb e))); ⟨z.1, z.2.1⟩
      exact ⟨l, hl, i + 1, G, (iv.unpinned (pins := [])).weak (by rw [← same8, wipe_length]) (fun j v e => by rw [← same8] at e; exact (wipe_some e).1), T.keep _ _ _ at7 fun b hb o e => (keeps b hb o e).1, fun b hb => let ⟨o, e, _⟩ := T.obj _ _ at7 b hb; (keeps b hb o e).2, vl⟩
    cases b with
    | false =>
      simp only [Bool.false_eq_true, if_false] at q9 ⊢
      exact back inv9 q9
    | true =>
      simp only [if_true] at q9 ⊢
      refine thnF (pe'.run _ s9 τ H9 _ inv9 q9) fun z s10 ⟨yv, H10, inv10, r10, k, S, c, ek, hS, room, next⟩ => ?_
      subst ek
      refine thnF (mt_saddK (X := X.blk s3 H3 scope inn fp) _ s10 τ H10 (.ref Z) [kV k] (.ref Z) [z] (fun _ G => Y G) inv10 rfl (.cons r10 .nil) ⟨Z, k, S, c, rfl, rfl, hS, room, next⟩) fun _ s11 ⟨_, H11, inv11, _, yG⟩ => ?_
      exact back inv11 yG
theorem pe_ks {elt tg iter : Expr} {ifs : List Expr} {scope : Scope} {own : List (PySem.Str × Nat)} {pos : Pos} {wi : TI} {g : TG} {tt : TT} {te : TE}
    (calm : X.calm = true) (nd : X.N.Nodup) (pi : PI X tg iter wi) (blk : BlkOk X.N X.env.scope scope own)
    (pg : ∀ (s : Shared) (H : Hp) (C : Addr) (cl : List (PySem.Str × Addr)) (fp : List Addr), PG (X.blk s H scope (compEnvC scope cl C X.env) fp) tg g)
    (pt : ∀ (s : Shared) (H : Hp) (C : Addr) (cl : List (PySem.Str × Addr)) (fp : List Addr), PTs (X.blk s H scope (compEnvC scope cl C X.env) fp) ifs tt)
    (pe : ∀ (s : Shared) (H : Hp) (C : Addr) (cl : List (PySem.Str × Addr)) (fp : List Addr), PE (X.blk s H scope (compEnvC scope cl C X.env) fp) elt te)
    (plain : ∀ x, foldedSetIterable iter X.env x = pure x := by intro _; rfl) :
    PE X (.SetComp elt [⟨tg, iter, ifs, 0⟩] scope pos) (tKS X.prog X.w wi g tt te (own.map (·.2))) := by
  refine ⟨fun pins s0 σ H Q inv want => ?_⟩
  rw [eval_SetComp]
  refine ks_all inv calm nd pi blk pg pt pe plain want fun Z C u m G iv q named foot => ⟨m, named, fun h'' sb => ?_⟩
  exact ⟨.ref Z, G, iv.turned (t' := u.toks) (fun b o hb e => (sb.2 b hb).trans e) foot.1 foot.2.1 foot.2.2.2.1 foot.2.2.2.2.1 foot.2.2.2.2.2, rfl, q⟩
/-- x = {..}, x a name of the def on the same line -/
theorem ps_setKs {i : Nat} {y : Str} {py : Pos} {elt tg iter : Expr} {ifs : List Expr} {scope : Scope} {own : List (PySem.Str × Nat)} {pos spos : Pos} {wi : TI} {g : TG} {tt : TT} {te : TE}
    (calm : X.calm = true) (nd : X.N.Nodup) (hy : X.N[i]? = some y) (loc : X.env.scope.names.lookup y = some .local)
    (sw : swapsWith (.SetComp elt [⟨tg, iter, ifs, 0⟩] scope pos) (some (.Name y py)) spos.line X.env = pure true) (pi : PI X tg iter wi) (blk : BlkOk X.N X.env.scope scope own)
    (pg : ∀ (s : Shared) (H : Hp) (C : Addr) (cl : List (PySem.Str × Addr)) (fp : List Addr), PG (X.blk s H scope (compEnvC scope cl C X.env) fp) tg g)
    (pt : ∀ (s : Shared) (H : Hp) (C : Addr) (cl : List (PySem.Str × Addr)) (fp : List Addr), PTs (X.blk s H scope (compEnvC scope cl C X.env) fp) ifs tt)
    (pe : ∀ (s : Shared) (H : Hp) (C : Addr) (cl : List (PySem.Str × Addr)) (fp : List Addr), PE (X.blk s H scope (compEnvC scope cl C X.env) fp) elt te)
    (plain : ∀ x, foldedSetIterable iter X.env x = pure x := by intro _; rfl) :
    PS X (.Assign [.Name y py] (.SetComp elt [⟨tg, iter, ifs, 0⟩] scope pos) spos) (L2.tAsg (tKS X.prog X.w wi g tt te (own.map (·.2))) (gName i)) := by
  refine ⟨fun pins s0 σ H D inv want => ?_⟩
  rw [exec_Assign_Name_used _ _ _ _ sw]
  refine wpAny_bind (wpAny_standAt (wpAny_bind (wpAny_bind (thn (Q := fun _ u => SP X pins D .next u) ?_ fun _ u hu => wpAny_pure (wpAny_pure hu)))))
  refine ks_all (Q := fun x G => gName i x σ G D.nx) (use := some (assign (.Name y py) X.env)) inv calm nd pi blk pg pt pe plain want fun Z C u m G iv q named foot => ?_
  refine wpAny_assign_Name (store_ok2 (v := V.ref Z) iv nd hy (.inl loc) rfl (fun u2 iv2 ⟨a, sb, ha⟩ => ?_) (.inr loc))
  have other : C ≠ a := ha.elim (fun z => by rw [z]; exact foot.2.1) fun z e => foot.2.2.2.2.1 y a z e.symm
  exact ⟨m, named.sameBut sb other, fun h3 sb3 => ⟨_, G, iv2.turned (t' := u2.toks) (fun b o hb e => (sb3.2 b hb).trans e) foot.1 foot.2.1 foot.2.2.2.1 foot.2.2.2.2.1 foot.2.2.2.2.2, q⟩⟩
theorem sw_ks {elt : Expr} {gs : List Comprehension} {scope : Scope} {pos py : Pos} {y : Str} {l : Nat} {env : Env} (fn : env.scope.kind = .function) (loc : env.scope.names.lookup y = some .local) (line : (py.line == pos.line) = true)
    (own : (scope.names.any fun (n, k) => n == y && (k == .local || k == .cell)) = false) : swapsWith (.SetComp elt gs scope pos) (some (.Name y py)) l env = pure true :=
  (sw_true (elt := elt) (gs := gs) (scope := scope) (pos := pos) (py := py) (y := y) (l := l) (env := env) fn loc line own)
end
/-- its turns: the set stands at k -/
def ksGo (it : Itd) (t : Tg) (c : TF) (e : EF) (ρ : Lc) (k : Nat) : Nat → Nat → Sto → Res D
  | n, i, S => match it.at' i S with
    | none => .no
    | some none => .ok (.ob k) S
    | some (some d) => match n with
      | 0 => .no
      | n + 1 => match t.put d ρ S with
        | none => .no
        | some ρ1 => match c ρ1 S with
          | .ok false S2 => ksGo it t c e ρ k n (i + 1) S2
          | .ok true S2 => (match e ρ1 S2 with
            | .ok y S3 => (match S3[k]?, keyD y with
              | some (.set ks), some q => if gd (ks.length + 1 < scanBound) then ksGo it t c e ρ k n (i + 1) (S3.set k (.set (if inK ks q then ks else ks ++ [q]))) else .no
              | _, _ => .no)
            | _ => .no)
          | _ => .no
/-- {e for t in a if c} -/
def eKcS (a : IF) (t : Tg) (c : TF) (e : EF) (own : List Nat) : EF := fun ρ S => (a ρ S).bind fun it S1 => ksGo it t c e (wipeD ρ own) S1.length (it.size S1) 0 (S1 ++ [.set []])
section
variable {X : Cx} {W : WX} {w : Expr} {gi : IF} {gt : TF} {fe : EF} {t : Tg} {own : List Nat}
theorem tKS_of (ho : ∀ j ∈ t.slots, j ∈ own) : ∀ σ H Q, lE X.K X.M W (eKcS gi t gt fe own) σ H Q → tKS X.prog X.w (lf (ItR X.K X.M) X.K X.M W gi) (gOf X.K t) (lT X.K X.M wF gt) (lE X.K X.M wF fe) own σ H Q := fun σ H Q ⟨φ, ρ, S, er, sr, p⟩ =>
  (lf.bind er sr p).imp fun J H1 ⟨φ1, S1, it, e1, sr1, r1, p1⟩ => fun Z hZ => by
    have eZ := Ext.newSnoc (φ := φ1) (o := SetK X.prog X.w Z (fun _ => false) 0) hZ
    have em : (fun _ : Key => false) = inK [] := by funext k; rfl
    have srZ : Sr X.K X.M (φ1 ++ [Z]) (S1 ++ [.set []]) (upd H1 Z (SetK X.prog X.w Z (fun _ => false) 0)) := sr1.snoc hZ ⟨List.nodup_nil, by rw [em]; exact upd_same⟩
    refine ⟨fun i n G => ∃ φ S, Ext φ1 H1 φ G ∧ φ[S1.length]? = some Z ∧ Sr X.K X.M φ S G ∧ post (Rp X.K X.M) X.K X.M W φ G σ Q (ksGo it t gt fe (wipeD ρ own) S1.length n i S),
      ⟨it.size S1, φ1 ++ [Z], _, eZ, at_snoc sr1 Z, srZ, post.mono eZ p1⟩, ?_⟩
    rintro i n G ⟨φ, S, ex, hk, sr, p⟩
    have J1 := r1 i φ S G ex sr
    unfold ksGo at p
    cases ha : it.at' i S with
    | none => rw [ha] at p; exact p.elim
    | some o =>
      rw [ha] at p J1
      cases o with
      | none => exact .inl ⟨J1, p φ G _ Ext.rfl' sr (.ob hk)⟩
      | some d =>
        obtain ⟨go, yld⟩ := J1
        cases n with
        | zero => exact p.elim
        | succ n =>
          refine .inr ⟨go, fun G' => ∃ φ S, Ext φ1 H1 φ G' ∧ φ[S1.length]? = some Z ∧ Sr X.K X.M φ S G' ∧ post (Rp X.K X.M) X.K X.M W φ G' σ Q (ksGo it t gt fe (wipeD ρ own) S1.length n (i + 1) S), fun G' y => ⟨n, Nat.lt_succ_self n, y⟩, fun x G' hy => ?_⟩
          obtain ⟨ex2, sr2, rx⟩ := yld x G' hy
          simp only at p
          split at p
          · exact p.elim
          · rename_i ρ1 hp
            have erw := ((er.mono e1).mono (ex.trans ex2)).wipe own
            refine gOf_ok sr2 t x d (wipe σ own) (wipeD ρ own) ρ1 _ erw rx hp fun σ2 er2 sb => ⟨(sb.mono ho).wipe.trans wipe_wipe, φ, ρ1, S, er2, sr2, ?_⟩
            split at p
            · rename_i S2 hc
              rw [hc]
              intro φ3 G3 b e3 sr3 hb
              cases hb
              rw [if_neg Bool.false_ne_true]
              exact ⟨φ3, S2, (ex.trans ex2).trans e3, e3.pre _ _ hk, sr3, post.mono (ex2.trans e3) p⟩
            · rename_i S2 hc
              rw [hc]
              intro φ3 G3 b e3 sr3 hb
              cases hb
              rw [if_pos rfl]
              refine ⟨φ3, ρ1, S2, er2.mono e3, sr3, ?_⟩
              split at p
              · rename_i y S3 hy
                rw [hy]
                intro φ4 G4 yv e4 sr4 ry
                split at p
                · rename_i ks q hks hq
                  split at p
                  · rename_i hz
                    have hk4 := e4.pre _ _ (e3.pre _ _ hk)
                    obtain ⟨a, hφ, nd, g⟩ := sr4.at' _ _ hks
                    obtain rfl : Z = a := by rw [hk4] at hφ; exact Option.some.inj hφ
                    obtain ⟨k1, k2⟩ := inK_add ks q
                    have ex5 : Ext φ4 G4 φ4 (upd G4 Z (SetK X.prog X.w Z (inK (if inK ks q = true then ks else ks ++ [q])) (if inK ks q = true then ks else ks ++ [q]).length)) := Ext.put hk4
                    refine ⟨q, inK ks, ks.length, keyD_ok ry hq, g, of_gd hz, ?_⟩
                    rw [k1, k2]
                    have nd' : (if inK ks q = true then ks else ks ++ [q]).Nodup := by
                      by_cases h : inK ks q = true
                      · rw [if_pos h]; exact nd
                      · rw [if_neg h, List.nodup_append]
                        exact ⟨nd, by simp, fun u hu v hv => by
                          have : v = q := by simpa using hv
                          subst this
                          rintro rfl
                          exact h (inK_mem.mpr hu)⟩
                    exact ⟨φ4, _, (((ex.trans ex2).trans e3).trans e4).trans ex5, hk4, sr4.put (u := .set (if inK ks q = true then ks else ks ++ [q])) hk4 ⟨nd', upd_same⟩, post.mono (((ex2.trans e3).trans e4).trans ex5) p⟩
                  · exact p.elim
                · exact p.elim
              · exact p.elim
            · exact p.elim
theorem de_ksS {own' : List (Str × Nat)} (h : PE X w (tKS X.prog X.w (lf (ItR X.K X.M) X.K X.M W gi) (gOf X.K t) (lT X.K X.M wF gt) (lE X.K X.M wF fe) (own'.map (·.2)))) (ho : ∀ j ∈ t.slots, j ∈ own'.map (·.2)) : DE X W w (eKcS gi t gt fe (own'.map (·.2))) :=
  pe_wk h (tKS_of ho)
theorem ds_setKs {st : Stmt} {i : Nat} {own' : List (Str × Nat)} (h : PS X st (L2.tAsg (tKS X.prog X.w (lf (ItR X.K X.M) X.K X.M W gi) (gOf X.K t) (lT X.K X.M wF gt) (lE X.K X.M wF fe) (own'.map (·.2))) (gName i))) (ho : ∀ j ∈ t.slots, j ∈ own'.map (·.2)) :
    DS X W st (sAsg (.nm i) (eKcS gi t gt fe (own'.map (·.2)))) :=
  ds_asg (ps_wk h fun N σ H z => tKS_of ho σ H _ (z.imp fun x H1 q => by unfold gOf at q; exact q))
end
end DV
set_option Elab.async false
set_option linter.all false
set_option maxRecDepth 100000
namespace DV
open PySem PySem.Spec PyProof.Rows L2
/-! ### max(x) of a tuple or list of whole numbers -/
section
variable {prog : Program} {w : World} {A : Around} {E : Value → Shared → Prop} {s : Shared} {l : Addr} {its : List Value} {ns : List Int} {Q : Value → Shared → Prop}
theorem iter_intTuple {xs : Array (Int × Tok)} (hl : s.heap.IsTuple l (intItems xs))
    (h : ∀ s₂ : Shared, s₂ = { s with heap := s.heap.push { cls := .type "tuple_iterator", data := .fields #[.ref l, .int 0 0] } } →
      (s₂.heap.IsTupleIter s.heap.objs.size l 0 ∧ s₂.heap.IsTuple l (intItems xs)) → (∀ b ∈ [s.heap.objs.size, l], b < s₂.heap.objs.size) → l ≠ s.heap.objs.size → Q (.ref s.heap.objs.size) s₂) :
    wpAny (model prog w) A (pyIter (.ref l)) Q E s := by
  obtain ⟨o, ho, hc, n, hd⟩ := id hl
  have hlt : l < s.heap.objs.size := Heap.lt_size ho
  refine wpAny_pyIter_tuple hl (h _ rfl ⟨⟨_, Heap.get?_push_size _ rfl, rfl, rfl⟩, hl.at fun o e => Heap.get?_push_of_some _ e⟩ (fun b hb => ?_) (Nat.ne_of_lt hlt))
  show b < (s.heap.push _).objs.size
  rw [Heap.size_push]
  rcases List.mem_cons.mp hb with rfl | hb
  · exact Nat.lt_succ_self _
  · rcases List.mem_cons.mp hb with rfl | hb
    · exact Nat.lt_succ_of_lt hlt
    · cases hb
theorem old_kept' {h' : Heap} (hk : ∀ b o, b ∉ [s.heap.objs.size] → (s.heap.push { cls := .type "tuple_iterator", data := .fields #[.ref l, .int 0 0] }).get? b = some o → h'.get? b = some o) :
    ∀ b o, s.heap.get? b = some o → h'.get? b = some o := fun b o e => by
  refine hk b o (fun hm => ?_) (Heap.get?_push_of_some _ e)
  rcases List.mem_cons.mp hm with e1 | hm
  · exact absurd (e1 ▸ Heap.lt_size e) (Nat.lt_irrefl _)
  · cases hm
theorem max_rawT (hh : A.handled = none) (hl : s.heap.IsTuple l its.toArray) (hi : IntsAre its ns) (hne : 0 < ns.length)
    (h : ∀ h' tk M t', (∀ b o, s.heap.get? b = some o → h'.get? b = some o) → M ∈ ns → (∀ a, a ∈ ns → a ≤ M) → Q (.int M t') { s with heap := h', toks := tk }) : wpAny (model prog w) A (call (.builtin "max") [.ref l]) Q E s := by
  obtain ⟨xs, e⟩ := hi.allInts.items
  have hn : numsOf (intItems xs).toList = ns := by rw [← e]; exact hi.numsOf
  rw [nums_intItems] at hn
  subst hn
  rw [e] at hl
  have hsz : 0 < xs.size := by simpa using hne
  refine call_max_walk (iter_intTuple hl fun s₂ e st hfp hlI => ?_)
  subst e
  refine ⟨_, _, _, _, _, _, _, rfl, Walks.tuple (A := A.in1) hh _ l hlI (intItems xs), st, hfp, by simpa [intItems] using hsz, CmpOf.ints_gt (numAt xs) (fun _ _ => intItems_at), fun v h' tk hP hk => ?_⟩
  have hv : (intItems xs)[argBest (fun i j => decide (numAt xs i > numAt xs j)) (xs.size - 1)]? = some v := by simpa [intItems] using hP
  obtain ⟨t, rfl⟩ := intItems_at hv
  obtain ⟨h1, h2⟩ := argBest_gt (numAt xs) (xs.size - 1)
  refine h h' tk _ t (old_kept' hk) ?_ fun a ha => ?_
  · rw [numAt_eq]; exact PySem.getD_mem (by rw [List.length_map, Array.length_toList]; omega)
  · obtain ⟨j, hj, rfl⟩ := mem_getD ha
    rw [List.length_map, Array.length_toList] at hj
    rw [← numAt_eq]; exact h2 j (by omega)
end
section
variable {X : Cx}
def rMaxQ (K : PySem.W.Frag) : List V → Hp → VK → Prop := fun vs H Q => ∃ (a : Addr) (ns : List Int), vs = [V.ref a] ∧ (SqL K H a (ns.map V.int) ∨ SqT K H a (ns.map V.int)) ∧ 0 < ns.length ∧ ∀ m, m ∈ ns → (∀ y, y ∈ ns → y ≤ m) → Q (.int m) H
theorem cr_maxQ (hc : X.calm = true) : CallR X (.builtin "max") (rMaxQ X.K) := by
  intro pins s σ H vs us Q I r h
  obtain ⟨a, ns, rfl, hs, hne, q⟩ := h
  rcases hs with hs | hs
  · exact cr_max hc pins s σ H _ us Q I r ⟨a, ns, rfl, hs, hne, q⟩
  · obtain ⟨its, rv, hl, _⟩ := I.tuple hs
    rw [Vals.ref1 r]
    exact max_rawT (I.ok.hd hc) hl rv.ints hne fun h' tk m t' hk h1 h2 => ⟨.int _, H, I.kept hk, ⟨_, rfl⟩, q m h1 h2⟩
end
def maxL : Int → List Int → Int
  | b, [] => b
  | b, c :: cs => maxL (if b < c then c else b) cs
theorem maxL_ok : ∀ (cs : List Int) (b m : Int), (m = b ∨ m ∈ cs) → b ≤ m → (∀ y ∈ cs, y ≤ m) → maxL b cs = m
  | [], b, m, h, _, _ => by
    rcases h with h | h
    · exact h.symm
    · cases h
  | c :: cs, b, m, h, hb, hy => by
    have hc := hy c (by simp)
    unfold maxL
    refine maxL_ok cs _ m ?_ (by split <;> omega) (fun y h => hy y (by simp [h]))
    rcases h with h | h
    · subst h; left; rw [if_neg (by omega)]
    · rcases List.mem_cons.mp h with rfl | h
      · by_cases e : m = b
        · left; subst e; split <;> rfl
        · left; rw [if_pos (by omega)]
      · exact .inr h
def cMaxS : FF
  | [d], S => match seqOf d S with
    | some xs => match allInt xs with | some (b :: bs) => .ok (.int (maxL b bs)) S | _ => .no
    | none => .no
  | _, _ => .no
theorem cMaxS_ok {K : PySem.W.Frag} {mg : MG} : Cal K mg (rMaxQ K) cMaxS := fun W φ S H σ xs ds Q s r p => by
  unfold cMaxS at p
  split at p
  · split at p
    · rename_i ys e0
      split at p
      · rename_i b bs eb
        cases r with
        | cons a z =>
          cases z
          obtain ⟨l, us, rfl, g, rs⟩ := seqOf_ok s a e0
          have := allInt_ok rs eb
          subst this
          exact ⟨_, b :: bs, rfl, g, by simp, fun m hm hy => by
            have e : maxL b bs = m := maxL_ok bs b m (List.mem_cons.mp hm) (hy b (by simp)) (fun y h => hy y (by simp [h]))
            rw [← e]
            exact p φ H _ Ext.rfl' s (.int _)⟩
      · exact p.elim
    · exact p.elim
  · exact p.elim
end DV
set_option Elab.async false
set_option linter.all false
set_option maxRecDepth 100000
namespace DV
open PySem PySem.Spec PyProof.Rows L2 L2H
/-! ### a call of what an expression gives: one of some defs -/
def eCallV (tab : List (Str × FF)) (fe : EF) (ga : AF) : EF := fun ρ S => (fe ρ S).bind fun d S1 => match d with
  | .gl x => (match tab.lookup x with
    | some F => eCall F ga ρ S1
    | none => .no)
  | _ => .no
def tCallV (T : Addr → Sp → Prop) (tf : TE) (E : L2.St → XK) (t : TA) : TE := fun σ H Q => tf σ H fun v H1 => ∃ f sp, v = .ref f ∧ T f sp ∧ tCallS sp E t σ H1 Q
section
variable {X : Cx} {CX : CXT} {W : WX} {n : Nat} {fx e : Expr} {es : List Expr} {pos : Pos} {tf : TE} {t : TA} {T : Addr → Sp → Prop} {E : L2.St → XK} {Φ : Around → Prop} {fe : EF} {ga : AF} {tab : List (Str × FF)}
/-- the call's callee is reckoned as any expression is -/
abbrev PlainCallee (fx : Expr) (es : List Expr) (pos : Pos) (env : Env) : Prop :=
  eval (.Call fx es [] pos) env = (do PySem.callWith pos (← eval fx env) [] (backTo pos (starEach es env)) (backToKw pos (keywordEach [] env)))
theorem pe_callV (A : ∀ f sp, T f sp → ∃ fd ps, FnW Φ X.prog X.w X.K X.mg X.base CX f fd ps sp ∧ PySem.W.keepIn X.K (.ref f) = true ∧ Binds X.K fd ps []) (hr : Φ X.A) (hx : ∀ σ, PassesAt CX X σ (E σ))
    (hf : PE X fx tf) (ha : PA X (e :: es) t) (harm : PlainCallee fx (e :: es) pos X.env) (he : starEach (e :: es) X.env = (false, eval e X.env) :: starEach es X.env := by rfl) (hpl : (backTo pos (starEach es X.env)).any (·.1) = false := by rfl) :
    PE X (.Call fx (e :: es) [] pos) (tCallV T tf E t) := by
  constructor
  intro pins s σ H Q I h
  rw [harm]
  refine wpAny_bind (thn (hf.run pins s σ H _ I h) fun u s1 ⟨v, H1, I1, rv, f, sp, ev, hT, ht⟩ => ?_)
  subst ev
  cases (show u = Value.ref f from rv)
  obtain ⟨fd, ps, F, hk, hb⟩ := A f sp hT
  have args := thn (ha.run pos pins s1 σ H1 _ I1 ht) fun us s2 (z : AP X pins σ (fun vs H1 => sp vs H1 Q (E σ)) us s2) => let ⟨_, _, I2, r, q⟩ := z; (⟨I2.kIn, run_fnW F hr hb (hx σ) I2 r q⟩ : X.K.In s2.heap ∧ wpAny (model X.prog X.w) X.A (call (.ref f) us) (EP X pins σ Q) X.xe s2)
  exact PySem.W.callWith_K (h₀ := X.base) I.ok.mod.kin hk args he hpl
theorem de_callV (ht : ∀ x F, tab.lookup x = some F → ∃ ps, DefW Φ X.prog X.w X.K X.mg X.base x ps n F) (hr : Φ X.A) (tk : Takes X W) (hf : DE X W fx fe) (ha : DA X W (e :: es) ga) (hl : aLen ga n)
    (harm : PlainCallee fx (e :: es) pos X.env := by rfl) (he : starEach (e :: es) X.env = (false, eval e X.env) :: starEach es X.env := by rfl) (hpl : (backTo pos (starEach es X.env)).any (·.1) = false := by rfl) :
    DE X W (.Call fx (e :: es) [] pos) (eCallV tab fe ga) :=
  pe_wk (pe_callV (T := fun f sp => ∃ x F, tab.lookup x = some F ∧ X.mg x = some (.ref f) ∧ sp = spF X.K X.M n F) (fun f sp ⟨x, F, h1, h2, h3⟩ => by
    obtain ⟨ps, a, fd, G, hm, hk, hb⟩ := ht x F h1
    cases h2.symm.trans hm
    subst h3
    exact ⟨fd, ps, G, hk, hb⟩) hr (fun σ => passAt tk σ) hf ha harm he hpl) fun σ H Q ⟨φ, ρ, S, er, sr, p⟩ =>
    (lf.bind er sr p).imp fun v H1 ⟨φ1, S1, d, e1, sr1, r1, p1⟩ => by
      split at p1
      · split at p1
        · rename_i x F hF
          cases r1 with
          | gl hm => exact ⟨_, _, rfl, ⟨_, _, hF, hm, rfl⟩, tCall_of hl σ H1 Q ⟨φ1, ρ, S1, er.mono e1, sr1, p1⟩⟩
        · exact p1.elim
      · exact p1.elim
theorem tv_nil {P : Program} {w : World} {K : PySem.W.Frag} {mg : Str → Option Value} {base : Heap} : ∀ x F, ([] : List (Str × FF)).lookup x = some F → ∃ ps, DefW Φ P w K mg base x ps n F := fun x F h => by cases h
theorem tv_cons {P : Program} {w : World} {K : PySem.W.Frag} {mg : Str → Option Value} {base : Heap} {y : Str} {ps : List Str} {G : FF} (d : DefW Φ P w K mg base y ps n G) (h : ∀ x F, tab.lookup x = some F → ∃ ps, DefW Φ P w K mg base x ps n F) :
    ∀ x F, ((y, G) :: tab).lookup x = some F → ∃ ps, DefW Φ P w K mg base x ps n F := fun x F z => by
  rw [List.lookup_cons] at z
  split at z
  · rename_i hx
    have := eq_of_beq hx
    subst this
    cases z
    exact ⟨ps, d⟩
  · exact h x F z
/-- a def's name as a value -/
theorem de_gdefW {x : Str} {ps : List Str} {F : FF} (d : DefW Φ X.prog X.w X.K X.mg X.base x ps n F) (hg : Gl X x) (hd : (x == ("__debug__" : Str)) = false := by decide) : DE X W (.Name x pos) (eC (.gl x)) := by
  obtain ⟨a, fd, G, hm, hk, hb⟩ := d
  exact de_con (pe_glob (v := .ref a) hg hm rfl hd) fun _ _ => .gl hm
theorem de_gdef {x : Str} {ps : List Str} {F : FF} {k : Nat} (d : Def X.prog X.w X.K X.mg X.base x ps k n F) (hg : Gl X x) (hd : (x == ("__debug__" : Str)) = false := by decide) : DE X W (.Name x pos) (eC (.gl x)) := by
  obtain ⟨a, fd, G, hm, hk, hb⟩ := d
  exact de_con (pe_glob (v := .ref a) hg hm rfl hd) fun _ _ => .gl hm
end
end DV
set_option Elab.async false
set_option linter.all false
set_option maxRecDepth 100000
namespace DV
open PySem PySem.Spec PyProof.Rows L2
/-- {k: d} of two names, the first an int: a dict by value -/
def eDct1 (i j : Nat) : EF := fun ρ S => match ρ[i]?, ρ[j]? with
  | some (some (.int a)), some (some d) => .ok (.dct [(.inl a, d)]) S
  | _, _ => .no
theorem de_dct1 {X : Cx} {W : WX} {k v : Expr} {i j : Nat} {pos : Pos} (hk : PE X k (tVar i)) (hv : PE X v (tVar j)) : DE X W (.Dict [some k] [v] pos) (eDct1 i j) :=
  pe_wk (pe_disp (pps_cons hk hv pps_nil) rfl rfl (by simp) (by simp)) fun σ H Q ⟨φ, ρ, S, er, sr, p⟩ => fun q hq => by
    unfold eDct1 at p
    split at p
    · rename_i a d h1 h2
      obtain ⟨x, hx, rx⟩ := er.at' i _ h1
      obtain ⟨y, hy, ry⟩ := er.at' j _ h2
      cases rx
      refine ⟨_, hx, _, hy, upd_same, [(.inl a, y)], rfl, by simp, ?_⟩
      rw [upd_upd]
      exact p φ _ _ (Ext.new hq) (sr.new hq) (.dct (ws := [(.inl a, y)]) (sr.im hq) rfl (.cons (ry.mono (Ext.new hq)) .nil))
    · exact p.elim
end DV
set_option Elab.async false
set_option linter.all false
set_option maxRecDepth 100000
namespace DV
open PySem PySem.Spec PyProof.Rows L2
/-! ### repr of data that holds dicts: the dicts' own addresses are not the modules' -/
def keyP : Key → PyData
  | .inl i => .int i
  | .inr x => .str x
mutual
inductive Dq (K : PySem.W.Frag) (H : Hp) : V → PyData → Prop
  | non : Dq K H .non .none
  | bl (b : Bool) : Dq K H (.bl b) (.bool b)
  | int (i : Int) : Dq K H (.int i) (.int i)
  | str (x : Str) : Dq K H (.str x) (.str x)
  | lst {a : Addr} {xs : List V} {ds : List PyData} : SqL K H a xs → DqAll K H xs ds → Dq K H (.ref a) (.list ds)
  | tup {a : Addr} {xs : List V} {ds : List PyData} : SqT K H a xs → DqAll K H xs ds → Dq K H (.ref a) (.tuple ds)
  | dct {a : Addr} {ws : List (Key × V)} {ks ds : List PyData} : Rd H a (.dK ws) → DqAll K H (ws.map fun p => kV p.1) ks → DqAll K H (ws.map fun p => p.2) ds → ks.length = ds.length → Dq K H (.ref a) (.dict (ks.zip ds))
inductive DqAll (K : PySem.W.Frag) (H : Hp) : List V → List PyData → Prop
  | nil : DqAll K H [] []
  | cons {v : V} {vs : List V} {d : PyData} {ds : List PyData} : Dq K H v d → DqAll K H vs ds → DqAll K H (v :: vs) (d :: ds)
end
theorem pairs_vals {P : Program} {w : World} : ∀ {es : List DictEntry} {vs : List (Key × Value)} {ws : List (Key × V)}, PySem.Pairs (mixKind P w) es vs → KV ws vs → Vals (ws.map fun p => kV p.1) (es.map (·.key)) ∧ Vals (ws.map fun p => p.2) (es.map (·.val))
  | _, _, _, .nil, .nil => ⟨.nil, .nil⟩
  | _, _, _, .cons (e := en) hk hv hp, .cons (a := p) r t => by
    obtain ⟨i1, i2⟩ := pairs_vals hp t
    obtain ⟨e1, e2⟩ := r
    refine ⟨.cons ?_ i1, .cons (show L2.RelV p.2 en.val by rw [hv]; exact e2) i2⟩
    have hk' : keyIs p.1 en.key = true := by rw [e1]; exact hk
    show L2.RelV (kV p.1) en.key
    rcases keyIs_shape hk' with ⟨i, t, e0, e⟩ | ⟨x, t, e0, e⟩
    · rw [e, e0]; exact ⟨t, rfl⟩
    · rw [e, e0]; exact ⟨t, rfl⟩
section
variable {X : Cx} {pins : List (Addr × Obj)} {σ : L2.St} {H : Hp} {s : Shared}
theorem zipP_fst {α β : Type} : ∀ {ks : List α} {ds : List β}, ks.length = ds.length → (ks.zip ds).map (·.1) = ks ∧ (ks.zip ds).map (·.2) = ds
  | [], [], _ => ⟨rfl, rfl⟩
  | [], _ :: _, h => by cases h
  | _ :: _, [], h => by cases h
  | k :: ks, d :: ds, h => by
    obtain ⟨a, b⟩ := zipP_fst (ks := ks) (ds := ds) (by simpa using h)
    exact ⟨by rw [List.zip_cons_cons, List.map_cons, a], by rw [List.zip_cons_cons, List.map_cons, b]⟩
mutual
theorem Dq.rk (I : Inv X pins σ H s) : ∀ {v : V} {d : PyData} {u : Value}, Dq X.K H v d → RelV v u → d.showable = true → d.shown.length ≤ sizeLine →
    (∃ as, Reads s.heap u d as) ∧ ∃ bs, ReadAtMost s.heap d.depth bs ∧ ReprK X.prog X.w bs s.heap d.depth u d.shown
  | _, _, _, .non, r, _, _ => by
    cases r
    exact ⟨⟨_, .none⟩, [], (fun _ h => nomatch h), by simp only [PyData.shown]; exact .of_is ReprIs.none _ _ _⟩
  | _, _, _, .bl b, r, _, _ => by
    cases r
    exact ⟨⟨_, .bool b⟩, [], (fun _ h => nomatch h), by simp only [PyData.shown]; exact .of_is (ReprIs.bool b) _ _ _⟩
  | _, _, _, .int i, r, hs, _ => by
    obtain ⟨t, rfl⟩ := r
    exact ⟨⟨_, .int i t⟩, [], (fun _ h => nomatch h), by simp only [PyData.shown]; exact .of_is (ReprIs.int t (by simpa [PyData.showable] using hs)) _ _ _⟩
  | _, _, _, .str x, r, _, hz => by
    obtain ⟨t, rfl⟩ := r
    exact ⟨⟨_, .str x t⟩, [], (fun _ h => nomatch h), by simp only [PyData.shown]; exact .of_is (ReprIs.str x t (by simpa only [PyData.shown] using hz)) _ _ _⟩
  | _, _, _, .lst (a := a) (ds := ds) h1 h2, r, hs, hz => by
    cases r
    obtain ⟨its, rv, ⟨o, n, ho, hc, _, hd⟩, _⟩ := I.list h1
    have hz' : (listText (PyData.shownAll ds)).length ≤ sizeLine := by simpa only [PyData.shown] using hz
    obtain ⟨⟨as, ra⟩, bs, hb, hk⟩ := DqAll.rk I h2 rv (by simpa [PyData.showable] using hs) fun t ht => Nat.le_trans (listText_mem_le ht) hz'
    have rr : Reads s.heap (.ref a) (.list ds) _ := .list ho hc hd ra
    have hna : a ∉ bs := not_mem_of_deeper rr (by simp only [PyData.depth]; omega) hb
    refine ⟨⟨_, rr⟩, a :: bs, ReadAtMost.cons rr (by simp only [PyData.depth]; omega) hb, ?_⟩
    simp only [PyData.depth, PyData.shown]
    cases its with
    | nil =>
      cases ra
      simp only [PyData.shownAll, listText_nil]
      exact ReprK.listEmpty ho hc hd
    | cons x l => exact ReprK.list ho hc hd hna (by simpa using hk.length_eq) fun i y e => hk.item i y (by simpa using e)
  | _, _, _, .tup (a := a) (ds := ds) h1 h2, r, hs, hz => by
    cases r
    obtain ⟨its, rv, ⟨o, ho, hc, n, hd⟩, _⟩ := I.tuple h1
    have hz' : (tupleText (PyData.shownAll ds)).length ≤ sizeLine := by simpa only [PyData.shown] using hz
    obtain ⟨⟨as, ra⟩, bs, hb, hk⟩ := DqAll.rk I h2 rv (by simpa [PyData.showable] using hs) fun t ht => Nat.le_trans (tupleText_mem_le ht) hz'
    have rr : Reads s.heap (.ref a) (.tuple ds) _ := .tuple ho hc hd ra
    have hna : a ∉ bs := not_mem_of_deeper rr (by simp only [PyData.depth]; omega) hb
    refine ⟨⟨_, rr⟩, a :: bs, ReadAtMost.cons rr (by simp only [PyData.depth]; omega) hb, ?_⟩
    simp only [PyData.depth, PyData.shown]
    exact ReprK.tuple ho hc hd hna hk
  | _, _, _, .dct (a := a) (ks := ks) (ds := ds) h1 h2 h3 hl, r, hs, hz => by
    cases r
    obtain ⟨_, hsys, vs, kv, o, es, ep, ho, hx, hd, _, hp, _⟩ := h1.ok I.hok
    obtain ⟨r1, r2⟩ := pairs_vals hp kv
    obtain ⟨z1, z2⟩ := zipP_fst hl
    have hz' : (dictText (PyData.shownKv (ks.zip ds))).length ≤ sizeLine := by simpa only [PyData.shown] using hz
    obtain ⟨hs1, hs2⟩ := PyData.showableKv_split (ks.zip ds) (by simpa [PyData.showable] using hs)
    have t1 : ∀ t ∈ PyData.shownAll ((ks.zip ds).map (·.1)), t.length ≤ sizeLine := fun t ht => let ⟨p, hp, hl⟩ := PyData.shownKv_key_le (ks.zip ds) t ht; Nat.le_trans hl (Nat.le_trans (dictText_mem_le hp) hz')
    have t2 : ∀ t ∈ PyData.shownAll ((ks.zip ds).map (·.2)), t.length ≤ sizeLine := fun t ht => let ⟨p, hp, hl⟩ := PyData.shownKv_val_le (ks.zip ds) t ht; Nat.le_trans hl (Nat.le_trans (dictText_mem_le hp) hz')
    have d1 := PyData.depthAll_keys_le (ks.zip ds)
    have d2 := PyData.depthAll_vals_le (ks.zip ds)
    rw [z1] at hs1 t1 d1
    rw [z2] at hs2 t2 d2
    obtain ⟨⟨as1, ra1⟩, b1, hb1, k1⟩ := DqAll.rk I h2 r1 hs1 t1
    obtain ⟨⟨as2, ra2⟩, b2, hb2, k2⟩ := DqAll.rk I h3 r2 hs2 t2
    have rr : Reads s.heap (.ref a) (.dict (ks.zip ds)) _ := .dict ho hx.1 hd (by rw [z1]; exact ra1) (by rw [z2]; exact ra2)
    have hb : ReadAtMost s.heap (PyData.depthKv (ks.zip ds)) (b1 ++ b2) := (hb1.mono d1).append (hb2.mono d2)
    have hna : a ∉ b1 ++ b2 := not_mem_of_deeper rr (by simp only [PyData.depth]; omega) hb
    refine ⟨⟨_, rr⟩, a :: (b1 ++ b2), ReadAtMost.cons rr (by simp only [PyData.depth]; omega) hb, ?_⟩
    simp only [PyData.depth, PyData.shown, PyData.shownKv_eq, z1, z2]
    exact ReprK.dict ho hx.1 hd hsys hna (ReprEntriesK.of_two es.toList _ _ (k1.more_le (fun b hb => List.mem_append_left _ hb) d1) (k2.more_le (fun b hb => List.mem_append_right _ hb) d2))
theorem DqAll.rk (I : Inv X pins σ H s) : ∀ {vs : List V} {ds : List PyData} {us : List Value}, DqAll X.K H vs ds → Vals vs us → PyData.showableAll ds = true → (∀ t ∈ PyData.shownAll ds, t.length ≤ sizeLine) →
    (∃ as, ReadsAll s.heap us ds as) ∧ ∃ bs, ReadAtMost s.heap (PyData.depthAll ds) bs ∧ ReprAllK X.prog X.w bs s.heap (PyData.depthAll ds) us (PyData.shownAll ds)
  | _, _, _, .nil, r, _, _ => by
    cases r
    exact ⟨⟨_, .nil⟩, [], (fun _ h => nomatch h), by simp only [PyData.shownAll]; exact .nil⟩
  | _, _, _, .cons h1 h2, r, hs, hz => by
    cases r with
    | cons r1 r2 =>
      simp only [PyData.showableAll, Bool.and_eq_true] at hs
      obtain ⟨⟨as1, ra1⟩, b1, hb1, k1⟩ := Dq.rk I h1 r1 hs.1 (hz _ (by simp only [PyData.shownAll]; exact List.mem_cons_self ..))
      obtain ⟨⟨as2, ra2⟩, b2, hb2, k2⟩ := DqAll.rk I h2 r2 hs.2 fun t ht => hz t (by simp only [PyData.shownAll]; exact List.mem_cons_of_mem _ ht)
      refine ⟨⟨_, .cons ra1 ra2⟩, b1 ++ b2, ?_, ?_⟩
      · simp only [PyData.depthAll]
        exact (hb1.mono (Nat.le_max_left _ _)).append (hb2.mono (Nat.le_max_right _ _))
      · simp only [PyData.depthAll, PyData.shownAll]
        exact .cons ((k1.more fun b hb => List.mem_append_left _ hb).level_le (Nat.le_max_left _ _)) (k2.more_le (fun b hb => List.mem_append_right _ hb) (Nat.le_max_right _ _))
end
/-- how an object of it is shown -/
theorem Dq.shows (I : Inv X pins σ H s) {a : Addr} {d : PyData} (h : Dq X.K H (.ref a) d) (hs : d.showable = true) (hz : d.shown.length ≤ sizeLine) : ∃ T idr, ShowsBy X.prog X.w s.heap a d T idr := by
  cases h with
  | @lst _ xs ds h1 h2 =>
    obtain ⟨its, rv, ⟨o, n, ho, hc, _, hd⟩, _⟩ := I.list h1
    have hz' : (listText (PyData.shownAll ds)).length ≤ sizeLine := by simpa only [PyData.shown] using hz
    obtain ⟨⟨as, ra⟩, bs, hb, hk⟩ := DqAll.rk I h2 rv (by simpa [PyData.showable] using hs) fun t ht => Nat.le_trans (listText_mem_le ht) hz'
    have rr : Reads s.heap (.ref a) (.list ds) _ := .list ho hc hd ra
    have hna : a ∉ bs := not_mem_of_deeper rr (by simp only [PyData.depth]; omega) hb
    refine ⟨"list", "list.__repr__", F.slot_list_repr.toG, F.slot_list_str, F.slot_list_format, fun s hk0 => ⟨o, hk0 _ _ ho, hc⟩, fun A E s Q hg hu hk0 hQ => ?_⟩
    simp only [PyData.depth] at hu
    simp only [PyData.shown] at hQ
    cases its with
    | nil =>
      cases ra
      simp only [PyData.shownAll, listText_nil] at hQ
      exact call_list_repr_empty ⟨o, hk0 _ _ ho, hc⟩ (hk0 _ _ ho) hd (hQ s.heap _ _ fun _ _ e => e)
    | cons x l => exact call_list_reprK ho hc hd hna (by simpa using hk.length_eq) (fun i y e => hk.item i y (by simpa using e)) hg (fun b _ => Clear.nil b) hu hk0 hQ hz'
  | @tup _ xs ds h1 h2 =>
    obtain ⟨its, rv, ⟨o, ho, hc, n, hd⟩, _⟩ := I.tuple h1
    have hz' : (tupleText (PyData.shownAll ds)).length ≤ sizeLine := by simpa only [PyData.shown] using hz
    obtain ⟨⟨as, ra⟩, bs, hb, hk⟩ := DqAll.rk I h2 rv (by simpa [PyData.showable] using hs) fun t ht => Nat.le_trans (tupleText_mem_le ht) hz'
    have rr : Reads s.heap (.ref a) (.tuple ds) _ := .tuple ho hc hd ra
    have hna : a ∉ bs := not_mem_of_deeper rr (by simp only [PyData.depth]; omega) hb
    refine ⟨"tuple", "tuple.__repr__", F.slot_tuple_repr, F.slot_tuple_str, F.slot_tuple_format, fun s hk0 => ⟨o, hk0 _ _ ho, hc⟩, fun A E s Q hg hu hk0 hQ => ?_⟩
    simp only [PyData.depth] at hu
    simp only [PyData.shown] at hQ
    exact call_tuple_reprK ho hc hd hna hk hg (fun b _ => Clear.nil b) hu hk0 hQ hz'
  | @dct _ ws ks ds h1 h2 h3 hl =>
    obtain ⟨_, hsys, vs, kv, o, es, ep, ho, hx, hd, _, hp, _⟩ := h1.ok I.hok
    obtain ⟨r1, r2⟩ := pairs_vals hp kv
    obtain ⟨z1, z2⟩ := zipP_fst hl
    have hz' : (dictText (PyData.shownKv (ks.zip ds))).length ≤ sizeLine := by simpa only [PyData.shown] using hz
    obtain ⟨hs1, hs2⟩ := PyData.showableKv_split (ks.zip ds) (by simpa [PyData.showable] using hs)
    have t1 : ∀ t ∈ PyData.shownAll ((ks.zip ds).map (·.1)), t.length ≤ sizeLine := fun t ht => let ⟨p, hp, hl⟩ := PyData.shownKv_key_le (ks.zip ds) t ht; Nat.le_trans hl (Nat.le_trans (dictText_mem_le hp) hz')
    have t2 : ∀ t ∈ PyData.shownAll ((ks.zip ds).map (·.2)), t.length ≤ sizeLine := fun t ht => let ⟨p, hp, hl⟩ := PyData.shownKv_val_le (ks.zip ds) t ht; Nat.le_trans hl (Nat.le_trans (dictText_mem_le hp) hz')
    have d1 := PyData.depthAll_keys_le (ks.zip ds)
    have d2 := PyData.depthAll_vals_le (ks.zip ds)
    rw [z1] at hs1 t1 d1
    rw [z2] at hs2 t2 d2
    obtain ⟨⟨as1, ra1⟩, b1, hb1, k1⟩ := DqAll.rk I h2 r1 hs1 t1
    obtain ⟨⟨as2, ra2⟩, b2, hb2, k2⟩ := DqAll.rk I h3 r2 hs2 t2
    have rr : Reads s.heap (.ref a) (.dict (ks.zip ds)) _ := .dict ho hx.1 hd (by rw [z1]; exact ra1) (by rw [z2]; exact ra2)
    have hb : ReadAtMost s.heap (PyData.depthKv (ks.zip ds)) (b1 ++ b2) := (hb1.mono d1).append (hb2.mono d2)
    have hna : a ∉ b1 ++ b2 := not_mem_of_deeper rr (by simp only [PyData.depth]; omega) hb
    refine ⟨"dict", "dict.__repr__", F.slot_dict_repr, F.slot_dict_str, F.slot_dict_format, fun s hk0 => ⟨o, hk0 _ _ ho, hx.1⟩, fun A E s Q hg hu hk0 hQ => ?_⟩
    simp only [PyData.depth] at hu
    simp only [PyData.shown, PyData.shownKv_eq, z1, z2] at hQ
    exact call_dict_reprK ho hx.1 hd hsys hna (ReprEntriesK.of_two es.toList _ _ (k1.more_le (fun b hb => List.mem_append_left _ hb) d1) (k2.more_le (fun b hb => List.mem_append_right _ hb) d2)) hg (fun b _ => Clear.nil b) hu hk0 hQ (by rw [PyData.shownKv_eq, z1, z2] at hz'; exact hz')
end
abbrev rReprQ (K : PySem.W.Frag) : List V → Hp → VK → Prop := fun xs H Q => ∃ v d, xs = [v] ∧ Dq K H v d ∧ d.showable = true ∧ d.depth ≤ 64 ∧ d.shown.length ≤ sizeLine ∧ Q (.str d.shown) H
theorem call_reprQ {X : Cx} (hg : X.A.guards = some []) (hu : X.A.units + 128 < cLine) : CallR X (.builtin "repr") (rReprQ X.K) := by
  rintro pins s σ H xs us Q I r ⟨v, d, rfl, hd, hs, hdp, hz, q⟩
  obtain ⟨u, rfl, ru⟩ := vals1 r
  have big : ∀ {a : Addr}, Dq X.K H (.ref a) d → wpAny (model X.prog X.w) X.A (call (.builtin "repr") [.ref a]) (EP X pins σ Q) X.xe s := fun {a} h => by
    obtain ⟨T, idr, S⟩ := Dq.shows I h hs hz
    exact call_repr_slot (by omega) (S.typeIs s fun _ _ e => e) S.slotRepr (S.call X.A.in1 _ s _ hg (by show X.A.units + 1 + d.depth < cLine; omega) (fun _ _ e => e) fun h' u tk hk => ⟨_, _, rfl, ⟨.str _, H, I.kept (t' := tk) hk, ⟨u, rfl⟩, q⟩⟩)
  cases hd with
  | non => cases (show u = Value.none from ru); exact PySem.P.repr_of_none ⟨.str _, H, I.tok _, ⟨_, rfl⟩, by simpa only [PyData.shown] using q⟩
  | bl b => cases (show u = Value.bool b from ru); exact PySem.P.repr_of_bool ⟨.str _, H, I.tok _, ⟨_, rfl⟩, by simpa only [PyData.shown] using q⟩
  | int i =>
    obtain ⟨t, rfl⟩ := (show ∃ t, u = Value.int i t from ru)
    exact PySem.P.repr_of_int (by simpa [PyData.showable] using hs) ⟨.str _, H, I.tok _, ⟨_, rfl⟩, by simpa only [PyData.shown] using q⟩
  | str x =>
    obtain ⟨t, rfl⟩ := (show ∃ t, u = Value.str x t from ru)
    exact PySem.P.repr_of_str ⟨.str _, H, I.tok _, ⟨_, rfl⟩, by simpa only [PyData.shown] using q⟩ (by simpa only [PyData.shown] using hz)
  | @lst a _ _ h1 h2 => cases (show u = Value.ref a from ru); exact big (.lst h1 h2)
  | @tup a _ _ h1 h2 => cases (show u = Value.ref a from ru); exact big (.tup h1 h2)
  | @dct a _ _ _ h1 h2 h3 hl => cases (show u = Value.ref a from ru); exact big (.dct h1 h2 h3 hl)
def pyOfD : Nat → Sto → D → Option PyData
  | 0, _, _ => none
  | _ + 1, _, .non => some .none
  | _ + 1, _, .bl b => some (.bool b)
  | _ + 1, _, .int i => some (.int i)
  | _ + 1, _, .str s => some (.str s)
  | n + 1, S, .tup ds => (pyOf.pyAll (pyOfD n S) ds).map .tuple
  | n + 1, S, .lst ds => (pyOf.pyAll (pyOfD n S) ds).map .list
  | n + 1, S, .dct kvs => (pyOf.pyAll (pyOfD n S) (kvs.map fun p => p.2)).map fun es => .dict ((kvs.map fun p => keyP p.1).zip es)
  | n + 1, S, .ob k => match S[k]? with
    | some (.lst ds) => (pyOf.pyAll (pyOfD n S) ds).map .list
    | _ => none
  | _ + 1, _, _ => none
theorem pyAll_okQ {K : PySem.W.Frag} {mg : MG} {φ : List Addr} {H : Hp} {f : D → Option PyData} (hf : ∀ v d e, Rp K mg φ H v d → f d = some e → Dq K H v e) :
    ∀ (vs : List V) (ds : List D) (es : List PyData), Rps K mg φ H vs ds → pyOf.pyAll f ds = some es → DqAll K H vs es ∧ es.length = ds.length
  | _, _, es, .nil, h => by cases h; exact ⟨.nil, rfl⟩
  | _, d :: r, es, .cons a b, h => by
    unfold pyOf.pyAll at h
    split at h
    · rename_i x xs h1 h2
      cases h
      obtain ⟨i1, i2⟩ := pyAll_okQ hf _ _ _ b h2
      exact ⟨.cons (hf _ _ _ a h1) i1, by simp [i2]⟩
    · cases h
theorem keys_dq {K : PySem.W.Frag} {H : Hp} : ∀ ks : List Key, DqAll K H (ks.map kV) (ks.map keyP)
  | [] => .nil
  | .inl i :: ks => .cons (.int i) (keys_dq ks)
  | .inr x :: ks => .cons (.str x) (keys_dq ks)
theorem pyOfD_ok {K : PySem.W.Frag} {mg : MG} {φ : List Addr} {H : Hp} {S : Sto} (s : Sr K mg φ S H) : ∀ (n : Nat) (v : V) (d : D) (e : PyData), Rp K mg φ H v d → pyOfD n S d = some e → Dq K H v e
  | 0, _, _, _, _, h => by simp [pyOfD] at h
  | n + 1, v, d, e, r, h => by
    have ih := pyOfD_ok s n
    cases d with
    | non => cases r; simp [pyOfD] at h; subst h; exact .non
    | bl b => cases r; simp [pyOfD] at h; subst h; exact .bl b
    | int b => cases r; simp [pyOfD] at h; subst h; exact .int b
    | str b => cases r; simp [pyOfD] at h; subst h; exact .str b
    | tup ds =>
      simp only [pyOfD, Option.map_eq_some_iff] at h
      obtain ⟨es, h1, rfl⟩ := h
      cases r with
      | tup t rs => exact .tup t.sq (pyAll_okQ (fun v d e a b => ih v d e a b) _ _ _ rs h1).1
    | lst ds =>
      simp only [pyOfD, Option.map_eq_some_iff] at h
      obtain ⟨es, h1, rfl⟩ := h
      cases r with
      | lst t rs => exact .lst (.of t.2) (pyAll_okQ (fun v d e a b => ih v d e a b) _ _ _ rs h1).1
    | dct kvs =>
      simp only [pyOfD, Option.map_eq_some_iff] at h
      obtain ⟨es, h1, rfl⟩ := h
      cases r with
      | dct t ks rs =>
        obtain ⟨i1, i2⟩ := pyAll_okQ (fun v d e a b => ih v d e a b) _ _ _ rs h1
        refine .dct (.of t.2) ?_ i1 (by rw [i2, List.length_map, List.length_map])
        have z := keys_dq (K := K) (H := H) (kvs.map (·.1))
        have e1 : (kvs.map (·.1)).map keyP = kvs.map fun p => keyP p.1 := by rw [List.map_map]; rfl
        rw [e1, ← ks, List.map_map] at z
        exact z
    | ob k =>
      simp only [pyOfD] at h
      split at h
      · rename_i ds hk
        simp only [Option.map_eq_some_iff] at h
        obtain ⟨es, h1, rfl⟩ := h
        cases r with
        | ob hn =>
          obtain ⟨xs, g, rs⟩ := s.lst hn hk
          exact .lst (.of g) (pyAll_okQ (fun v d e a b => ih v d e a b) _ _ _ rs h1).1
      · cases h
    | _ => simp [pyOfD] at h
def reprOkQ (e : PyData) : Bool := gd (e.showable = true ∧ e.depth ≤ 64 ∧ e.shown.length ≤ 1000000)
def cReprQ : FF
  | [d], S => match pyOfD 40 S d with
    | some e => if reprOkQ e then .ok (.str e.shown) S else .no
    | none => .no
  | _, _ => .no
theorem cReprQ_ok {K : PySem.W.Frag} {mg : MG} : Cal K mg (rReprQ K) cReprQ := fun W φ S H σ xs ds Q s r p => by
  unfold cReprQ at p
  split at p
  · split at p
    · rename_i e he
      split at p
      · rename_i hz
        cases r with
        | cons a b =>
          cases b
          obtain ⟨z1, z3, z4⟩ := of_gd hz
          exact ⟨_, e, rfl, pyOfD_ok s 40 _ _ _ a he, z1, z3, by rw [sizeLine_eq]; omega, p φ H _ Ext.rfl' s (.str _)⟩
      · exact p.elim
    · exact p.elim
  · exact p.elim
end DV
set_option Elab.async false
set_option linter.all false
set_option maxRecDepth 100000
/-! enumerate(x), x a tuple or a list -/
namespace DV
open PySem PySem.Spec PyProof.Rows L2
open Sem (wp)
set_option maxHeartbeats 1000000 in
/-- enumerate(v) from 0 on: the builtin -/
theorem en_new {v : Value} {o : Obj} {P : Heap → Prop} (B : Begins v o P) :
    Meets (Builtin.«enumerate.__new__» ⟨[.type "enumerate", v], []⟩) (fun _ R s => P s.heap ∧
      R (.ok (.ret (.ref (s.heap.push o).objs.size))) { s with heap := (s.heap.push o).push { cls := .type "enumerate", data := .fields #[.none, .bool false, .ref s.heap.objs.size, rawInt 0, .none, .none] } }) :=
  .of_wp fun prog w A R s want => by
    obtain ⟨hp, gs, dr, tk, os⟩ := s
    obtain ⟨stands, want⟩ := want
    have isEnum := sub_enumerate
    have begin' : ∀ {A' : Around} {E : Value → Shared → Prop} {Q : Value → Shared → Prop}, Q (.ref hp.objs.size) ⟨hp.push o, gs, dr, tk, os⟩ → wpAny (model prog w) A' (pyIter v) Q E ⟨hp, gs, dr, tk, os⟩ :=
      fun q => B.iter prog w _ _ ⟨hp, gs, dr, tk, os⟩ _ stands q
    wp_walk using begin'
    refine wpAny_stack_any fun st => wpAny_pure ?_
    split
    · rename_i c _ _ _ _ _
      cases (c == Value.type "enumerate") <;> (wp_walk using begin'; exact ⟨_, rfl, want⟩)
    · wp_walk using begin'
      exact ⟨_, rfl, want⟩
theorem en_call {prog : Program} {w : World} {A : Around} {E : Value → Shared → Prop} {s : Shared} {v : Value} {o : Obj} {P : Heap → Prop} {Q : Value → Shared → Prop} (B : Begins v o P) (stands : P s.heap)
    (want : ∀ g, IsEnum g (s.heap.objs.size + 1) s.heap.objs.size 0 .none → g.get? s.heap.objs.size = some o → g.objs.size = s.heap.objs.size + 2 → (∀ b u, s.heap.get? b = some u → g.get? b = some u) → Q (.ref (s.heap.objs.size + 1)) { s with heap := g }) :
    wpAny (model prog w) A (call (.type "enumerate") [v]) Q E s := by
  refine callType_new F.called_enumerate (by decide) (F.typeCall_enumerate_1 _) (F.newCall_enumerate_1 _) (fun ob => F.args_object_init_2 ob _) F.entry_enumerate_new (en_new B) ⟨stands, ?_⟩
  have size1 : (s.heap.push o).objs.size = s.heap.objs.size + 1 := Heap.size_push ..
  show _ ∧ _
  rw [size1]
  have made : IsEnum ((s.heap.push o).push { cls := .type "enumerate", data := .fields #[.none, .bool false, .ref s.heap.objs.size, rawInt 0, .none, .none] }) (s.heap.objs.size + 1) s.heap.objs.size 0 .none := by
    have z := Heap.get?_push_size (s.heap.push o) (o := { cls := .type "enumerate", data := .fields #[.none, .bool false, .ref s.heap.objs.size, rawInt 0, .none, .none] }) rfl
    rwa [size1] at z
  exact ⟨⟨_, made, rfl⟩, want _ made (Heap.get?_push_of_some _ (Heap.get?_push_size _ B.free)) (by rw [Heap.size_push, size1]) fun b u e => Heap.get?_push_of_some _ (Heap.get?_push_of_some _ e)⟩
/-- the tuple at a, each item in a new pair with its number -/
def Iten (K : PySem.W.Frag) (a : Addr) (n : Nat) : It where
  go := fun i H => ∃ (xs : List V) (x : V), SqT K H a xs ∧ xs.length = n ∧ xs[i]? = some x
  yld := fun i H v G => ∃ T x, v = .ref T ∧ H T = none ∧ G = upd H T (.tup [.int (i : Nat), x]) ∧ ∀ xs, SqT K H a xs → xs[i]? = some x
  stop := fun i H => ∃ xs : List V, SqT K H a xs ∧ xs.length = n ∧ n ≤ i
theorem turn_en {P : Program} {w : World} {K : PySem.W.Frag} {elts : List Expr} {kk : Nat} {tpos : Pos} (a e it : Addr) (n : Nat) :
    Turn P w K (.Tuple elts kk tpos) (Iten K a n) [e, it] e (fun i h => (∃ u, IsEnum h e it ((i : Nat) : Int) u) ∧ h.IsTupleIter it a i ∧ e ≠ it ∧ i ≤ n) where
  mem := by simp
  obj := fun i h ⟨⟨u, en⟩, ⟨o, at', _, fields⟩, _⟩ b hb => by
    rcases (show b = e ∨ b = it by simpa using hb) with rfl | rfl
    · exact ⟨_, en, fun v q => nomatch q⟩
    · exact ⟨o, at', fun v q => by rw [fields] at q; cases q⟩
  keep := fun i h h' ⟨⟨u, en⟩, hi, ne, le⟩ k => ⟨⟨u, k e (by simp) _ en⟩, hi.at fun o q => k it (by simp) o q, ne, le⟩
  item := by
    rintro X rfl rfl rfl calm i pins s σ H E inv foot ⟨⟨u0, en⟩, iter, ne, le⟩ ⟨xs, x, seq, hn, hx⟩
    obtain ⟨its, vals, tup, _⟩ := inv.tuple seq
    obtain ⟨u, hu, ru⟩ := vals.get hx
    have tup' : s.heap.IsTuple a its.toArray := tup
    have ea : e ≠ a := by
      rintro rfl
      obtain ⟨o, h1, h2, _⟩ := tup'
      have en' : s.heap.get? e = some _ := en
      rw [h1] at en'
      cases en'
      exact absurd (show Value.type "enumerate" = Value.type "tuple" from h2) (by decide)
    have ia : a ≠ it := by
      rintro rfl
      obtain ⟨o, h1, h2, _⟩ := tup'
      obtain ⟨o', h3, h4, _⟩ := iter
      rw [h1] at h3
      cases h3
      rw [h2] at h4
      exact absurd h4 (by decide)
    have hlt : i < its.toArray.size := by
      have := (List.getElem?_eq_some_iff.mp hu).1
      simpa using this
    have below : e < s.heap.objs.size ∧ it < s.heap.objs.size := ⟨Heap.lt_size en, by obtain ⟨_, q, _⟩ := iter; exact Heap.lt_size q⟩
    refine wpAny_pyNext_enum_itemD (Draws.tuple (A := X.A.in1) (show X.A.in1.handled = none from inv.ok.hd calm) it a ia its.toArray) en ⟨iter, tup'⟩ hlt ne (by simp [ne, ea]) fun y g tk hy out ⟨iter', _⟩ new size keeps => ?_
    obtain rfl : y = u := by
      have h1 : its.toArray[i]? = some y := hy
      rw [List.getElem?_toArray, hu] at h1
      exact (Option.some.inj h1).symm
    refine ⟨_, rfl, wpAny_letOwnedTupleGo_enum (s := { s with heap := g, toks := tk + 1 }) out fun g' en' same => ?_⟩
    have new' : g'.get? s.heap.objs.size = some { cls := .type "tuple", data := .seq #[.int i tk, y] } := (same.2 _ (Nat.ne_of_gt below.1)).trans new
    have pair : ObjOk X.prog X.w (upd H s.heap.objs.size (.tup [.int (i : Nat), x])) g' s.heap.objs.size (.tup [.int (i : Nat), x]) :=
      ⟨by show 2 ≤ sizeLine; decide, [.int i tk, y], .cons ⟨_, rfl⟩ (.cons ru .nil), ⟨_, new', rfl, _, rfl⟩⟩
    have inv1 : Inv X pins σ (upd H s.heap.objs.size (.tup [.int (i : Nat), x])) { s with heap := g', toks := tk + 1 } :=
      inv.turnedNew (ch := [e, it]) (fun b ob hb q => (same.2 b (fun z => hb (by simp [z]))).trans (keeps b ob (fun z => hb (by simp [z])) (fun z => hb (by simp [z])) q)) foot (Nat.le_refl _) pair
    refine ⟨.ref s.heap.objs.size, _, inv1, rfl, ⟨_, x, rfl, inv.hok.fresh (Nat.le_refl _), rfl, fun ys hy => by rw [inv.tuple_inj hy seq]; exact hx⟩, ⟨⟨y, ?_⟩, iter'.at fun o q => (same.2 it (Ne.symm ne)).trans q, ne, by have := (List.getElem?_eq_some_iff.mp hx).1; omega⟩, fun b hb => ?_⟩
    · rw [show ((i + 1 : Nat) : Int) = (i : Int) + 1 by omega]; exact en'
    · have lt : b < s.heap.objs.size := by
        rcases (show b = e ∨ b = it by simpa using hb) with rfl | rfl
        · exact below.1
        · exact below.2
      rw [upd_ne (Nat.ne_of_lt lt)]
      exact (foot b hb).1
  done := by
    rintro X rfl rfl rfl calm i pins s σ H E inv foot ⟨⟨u0, en⟩, iter, ne, le⟩ ⟨xs, seq, hn, hx⟩
    obtain ⟨its, vals, tup, _⟩ := inv.tuple seq
    have tup' : s.heap.IsTuple a its.toArray := tup
    obtain ⟨f0, f1, f2, f3, f4, f5⟩ := foot it (by simp)
    have len := vals.length
    have ia : a ≠ it := by
      rintro rfl
      obtain ⟨o, h1, h2, _⟩ := tup'
      obtain ⟨o', h3, h4, _⟩ := iter
      rw [h1] at h3
      cases h3
      rw [h2] at h4
      exact absurd h4 (by decide)
    have size : its.toArray.size = i := by simp; omega
    refine wpAny_pyNext_enum_endD (Draws.tuple (A := X.A.in1) (show X.A.in1.handled = none from inv.ok.hd calm) it a ia its.toArray) en ⟨by rw [size]; exact iter, tup'⟩ fun g eb => ⟨rfl, inv.turned (t' := s.toks) (fun b o hb q => eb b o hb q) f0 f1 f3 f4 f5⟩
  self := fun A i s Q E ⟨⟨_, en⟩, _⟩ q => wpAny_pyIter_enum en q
/-- enumerate(e), e a tuple or a list -/
def iEnA (K : PySem.W.Frag) (ta : TA) : TI := fun σ H R => ta σ H fun vs H1 => ∃ a xs, vs = [.ref a] ∧ ((SqT K H1 a xs ∧ R (Iten K a xs.length) H1) ∨ (SqL K H1 a xs ∧ R (Ite K a) H1))
theorem pi_enA {X : Cx} {e : Expr} {ta : TA} {p pos tpos : Pos} {elts : List Expr} {kk : Nat} (hg : Gl X "enumerate") (hm : X.mg "enumerate" = none) (ha : PA X [e] ta) (hs : starEach [e] X.env = [(false, eval e X.env)] := by rfl) :
    PI X (.Tuple elts kk tpos) (.Call (.Name "enumerate" p) [e] [] pos) (iEnA X.K ta) := by
  refine ⟨fun pins s σ H R inv want => ?_⟩
  refine Call_ (ld_blt inv hg hm boot_enumerate (PyProof.Rows.callWith_type1 (thn (ha.run pos pins s σ H _ inv want) fun us s1 ⟨vs, H1, inv1, rel, a, xs, ev, q⟩ => ?_) hs rfl))
  subst ev
  cases rel with
  | cons r rr =>
    cases rr
    cases r
    have foot : ∀ b ∈ [s1.heap.objs.size + 1, s1.heap.objs.size], FpOk X pins H1 b := fun b hb => by
      have above : s1.heap.objs.size ≤ b := by
        rcases (show b = s1.heap.objs.size + 1 ∨ b = s1.heap.objs.size by simpa using hb) with z | z
        · exact z ▸ Nat.le_succ _
        · exact Nat.le_of_eq z.symm
      exact inv1.fpOk above (inv1.hok.fresh above)
    rcases q with ⟨seq, q⟩ | ⟨seq, q⟩
    · obtain ⟨its, vals, tup, _⟩ := inv1.tuple seq
      refine en_call (begins_tuple a its.toArray) (show s1.heap.IsTuple a its.toArray from tup) fun g en iter size keeps => wpAny_pyIter_enum en ?_
      exact ⟨s1.heap.objs.size + 1, [s1.heap.objs.size + 1, s1.heap.objs.size], _, _, H1, rfl, inv1.kept (t' := s1.toks) keeps, turn_en a (s1.heap.objs.size + 1) s1.heap.objs.size xs.length, ⟨⟨.none, en⟩, ⟨_, iter, rfl, rfl⟩, Nat.succ_ne_self _, Nat.zero_le _⟩, foot, q⟩
    · obtain ⟨its, vals, tup, _⟩ := inv1.list seq
      refine call_enumerate_list tup.isList fun g en iter size keeps => wpAny_pyIter_enum en ?_
      exact ⟨s1.heap.objs.size + 1, [s1.heap.objs.size + 1, s1.heap.objs.size], _, _, H1, rfl, inv1.kept (t' := s1.toks) keeps, turn_enum a (s1.heap.objs.size + 1) s1.heap.objs.size, ⟨⟨.none, en⟩, iter, Nat.succ_ne_self _⟩, foot, q⟩
/-- the numbers beside what is gone through -/
def nums (n : Nat) : List D := (List.range n).map fun i => .int (i : Nat)
def iEnumD (a : AF) : IF := fun ρ S => (a ρ S).bind fun ds S1 => match ds with
  | [.tup xs] => .ok (.zipT (nums xs.length) xs) S1
  | [.lst xs] => .ok (.zipV (nums xs.length) xs) S1
  | _ => .no
theorem nums_at {n i : Nat} : (nums n)[i]? = if i < n then some (.int (i : Nat)) else none := by
  unfold nums
  by_cases h : i < n
  · simp [h]
  · simp [h]
section
variable {K : PySem.W.Frag} {mg : MG} {φ1 : List Addr} {H1 : Hp} {a : Addr} {xs : List V} {ds : List D}
theorem pair_new {φ : List Addr} {H : Hp} {S : Sto} {T : Addr} {i : Nat} {x : V} {d : D} (sr : Sr K mg φ S H) (free : H T = none) (rx : Rp K mg φ H x d) :
    Ext φ H φ (upd H T (.tup [.int (i : Nat), x])) ∧ Sr K mg φ S (upd H T (.tup [.int (i : Nat), x])) ∧ Rp K mg φ (upd H T (.tup [.int (i : Nat), x])) (.ref T) (.tup [.int (i : Nat), d]) :=
  ⟨Ext.new free, sr.new free, .tup (.inl (sr.im free)) (.cons (.int _) (.cons (rx.mono (Ext.new free)) .nil))⟩
theorem ItR.enT (t : ImT K φ1 H1 a xs) (rs : Rps K mg φ1 H1 xs ds) : ItR K mg φ1 H1 (Iten K a xs.length) (.zipT (nums ds.length) ds) := fun i φ S H ex sr => by
  have t' := (t.mono ex).sq
  have rs' := rs.mono ex
  unfold Itd.at'
  simp only [nums_at]
  cases e : ds[i]? with
  | none =>
    have le := List.getElem?_eq_none_iff.mp e
    rw [if_neg (by omega)]
    exact ⟨_, t', rfl, by rw [rs'.length]; exact le⟩
  | some d =>
    have lt := (List.getElem?_eq_some_iff.mp e).1
    rw [if_pos lt]
    obtain ⟨v, hv, rv⟩ := rs'.get e
    refine ⟨⟨_, v, t', rfl, hv⟩, fun x G ⟨T, y, ex', free, eg, hy⟩ => ?_⟩
    subst ex' eg
    have := hy _ t'
    rw [hv] at this
    cases this
    exact pair_new sr free rv
theorem ItR.enV (t : Im φ1 H1 a (.lst xs)) (rs : Rps K mg φ1 H1 xs ds) : ItR K mg φ1 H1 (Ite K a) (.zipV (nums ds.length) ds) := fun i φ S H ex sr => by
  have t' := ex.im t
  have rs' := rs.mono ex
  unfold Itd.at'
  simp only [nums_at]
  cases e : ds[i]? with
  | none =>
    have le := List.getElem?_eq_none_iff.mp e
    rw [if_neg (by omega)]
    exact ⟨_, .of t'.2, by rw [rs'.length]; exact le⟩
  | some d =>
    have lt := (List.getElem?_eq_some_iff.mp e).1
    rw [if_pos lt]
    obtain ⟨v, hv, rv⟩ := rs'.get e
    refine ⟨⟨_, v, .of t'.2, hv⟩, fun x G ⟨T, y, ex', free, eg, hy⟩ => ?_⟩
    subst ex' eg
    have := hy _ (.of t'.2)
    rw [hv] at this
    cases this
    exact pair_new sr free rv
end
section
variable {X : Cx} {W : WX} {tg iter : Expr} {ga : AF}
theorem di_enum (h : PI X tg iter (iEnA X.K (lA X.K X.M W ga))) : DI X W tg iter (iEnumD ga) :=
  pi_wk h fun σ H Q ⟨φ, ρ, S, er, sr, p⟩ => (lf.bind er sr p).imp fun vs H1 ⟨φ1, S1, ds, e1, sr1, r1, p1⟩ => by
    split at p1
    · cases r1 with
      | cons r rr =>
        cases rr
        cases r with
        | tup t rs => exact ⟨_, _, rfl, .inl ⟨t.sq, p1 φ1 H1 _ Ext.rfl' sr1 (ItR.enT t rs)⟩⟩
    · cases r1 with
      | cons r rr =>
        cases rr
        cases r with
        | lst t rs => exact ⟨_, _, rfl, .inr ⟨.of t.2, p1 φ1 H1 _ Ext.rfl' sr1 (ItR.enV t rs)⟩⟩
    · exact p1.elim
end
end DV
set_option Elab.async false
set_option linter.all false
set_option maxRecDepth 100000
/-! defs of the text as functions of data -/
namespace Fx
open PySem L2 DV
def c_is_whole_0 : SF :=
  (sRet (eAnd (eIs (eVar 0) "int") (eAnd (eOp oIsnt (eVar 0) (eC (.bl true))) (eOp oIsnt (eVar 0) (eC (.bl false))))))
def b_is_whole : SF :=
  c_is_whole_0
def F_is_whole : FF := runF 1 1 b_is_whole
def c_in_lowest_terms_0 : SF :=
  (sAsg (.nm 2) (eB cGcd (aCons (eVar 0) (aCons (eVar 1) aNil))))
def c_in_lowest_terms_1 : SF :=
  (sIf (tTru (eOp oLt (eVar 1) (eC (.int 0))))
    (sAsg (.nm 2) (eNeg (eVar 2)))
    sNil)
def c_in_lowest_terms_2 : SF :=
  (sRet (eTup (aCons (eOp oDiv (eVar 0) (eVar 2)) (aCons (eOp oDiv (eVar 1) (eVar 2)) aNil))))
def b_in_lowest_terms : SF :=
  (sSeq c_in_lowest_terms_0
    (sSeq c_in_lowest_terms_1
    c_in_lowest_terms_2))
def F_in_lowest_terms : FF := runF 3 2 b_in_lowest_terms
def c_is_less_0 : SF :=
  (sRet (eOp oLt (eOp oMul (eOp oIx (eVar 0) (eC (.int 0))) (eOp oIx (eVar 1) (eC (.int 1)))) (eOp oMul (eOp oIx (eVar 1) (eC (.int 0))) (eOp oIx (eVar 0) (eC (.int 1))))))
def b_is_less : SF :=
  c_is_less_0
def F_is_less : FF := runF 2 2 b_is_less
def c_floor_of_0 : SF :=
  (sRet (eOp oDiv (eOp oIx (eVar 0) (eC (.int 0))) (eOp oIx (eVar 0) (eC (.int 1)))))
def b_floor_of : SF :=
  c_floor_of_0
def F_floor_of : FF := runF 1 1 b_floor_of
def c_l_pen_0 : SF :=
  (sRet (eLstS (aCons (eB cList (aCons (eRo (eVar 0) pNo (pAt (eC (.int 63)))) aNil)) (aCons (eC (.int 0)) (aCons (eC (.int 0)) aNil)))))
def b_l_pen : SF :=
  c_l_pen_0
def F_l_pen : FF := runK 1 1 b_l_pen
def c_l_draw_0 : SF :=
  (sIf (tTru (eOp oGt (eOp oIx (eVar 0) (eC (.int 2))) (eC (.int 0))))
    (sSeq (sAsg (.nm 2) (eOp oMod (eOp oIx (eVar 0) (eC (.int 2))) (eVar 1)))
    (sSeq (sSub (eVar 0) (eC (.int 2)) (eOp oDiv (eOp oIx (eVar 0) (eC (.int 2))) (eVar 1)))
    (sRet (eVar 2))))
    sNil)
def c_l_draw_1 : SF :=
  (sAsg (.nm 3) (eOp oIx (eVar 0) (eC (.int 1))))
def c_l_draw_2 : SF :=
  (sSub (eVar 0) (eC (.int 1)) (eOp oAdd (eVar 3) (eC (.int 1))))
def c_l_draw_3 : SF :=
  (sAsg (.nm 4) (eC (.int 7)))
def c_l_draw_4 : SF :=
  (sIf (tTru (eOp oGt (eB cLen (aCons (eOp oIx (eVar 0) (eC (.int 0))) aNil)) (eC (.int 0))))
    (sAsg (.nm 4) (eOp oIx (eOp oIx (eVar 0) (eC (.int 0))) (eOp oMod (eVar 3) (eB cLen (aCons (eOp oIx (eVar 0) (eC (.int 0))) aNil)))))
    sNil)
def c_l_draw_5 : SF :=
  (sIf (bAnd (tTru (eOp oLt (eVar 3) (eB cLen (aCons (eOp oIx (eVar 0) (eC (.int 0))) aNil)))) (tTru (eOp oGe (eVar 4) (eOp oPow (eC (.int 10)) (eC (.int 18))))))
    (sSeq (sSub (eVar 0) (eC (.int 2)) (eOp oDiv (eVar 4) (eVar 1)))
    (sRet (eOp oMod (eVar 4) (eVar 1))))
    sNil)
def c_l_draw_6 : SF :=
  (sAsg (.nm 5) (eOp oMod (eOp oMul (eOp oAdd (eOp oMod (eVar 4) (eC (.int 2147483629))) (eC (.int 11))) (eOp oAdd (eOp oAdd (eOp oMul (eVar 3) (eVar 3)) (eOp oMul (eC (.int 5)) (eVar 3))) (eC (.int 3)))) (eC (.int 2147483647))))
def c_l_draw_7 : SF :=
  (sAsg (.nm 5) (eOp oMod (eOp oMul (eOp oMod (eOp oAdd (eOp oPow (eVar 5) (eC (.int 3))) (eOp oMul (eC (.int 69621)) (eVar 3))) (eC (.int 2147483587))) (eC (.int 40692))) (eC (.int 2147483399))))
def c_l_draw_8 : SF :=
  (sIf (tTru (eOp oGt (eVar 1) (eOp oPow (eC (.int 10)) (eC (.int 6)))))
    (sAsg (.nm 5) (eOp oAdd (eOp oMul (eVar 5) (eC (.int 2147483629))) (eOp oMod (eOp oMul (eOp oMod (eVar 5) (eC (.int 1000003))) (eC (.int 48271))) (eC (.int 2147483587)))))
    sNil)
def c_l_draw_9 : SF :=
  (sRet (eOp oMod (eOp oDiv (eVar 5) (eC (.int 64))) (eVar 1)))
def b_l_draw : SF :=
  (sSeq c_l_draw_0
    (sSeq c_l_draw_1
    (sSeq c_l_draw_2
    (sSeq c_l_draw_3
    (sSeq c_l_draw_4
    (sSeq c_l_draw_5
    (sSeq c_l_draw_6
    (sSeq c_l_draw_7
    (sSeq c_l_draw_8
    c_l_draw_9)))))))))
def F_l_draw : FF := runF 6 2 b_l_draw
def fu_l_low_0 : Lc → Sto → Nat := fun (ρ : Lc) _ => match ρ[3]? with | some (some (D.int i)) => i.natAbs | _ => 0
def c_l_low_0 : SF :=
  (sPar 2 3 (aCons (eB cAbs (aCons (eVar 0) aNil)) (aCons (eB cAbs (aCons (eVar 1) aNil)) aNil)))
def c_l_low_1_0 : SF :=
  (sPar 2 3 (aCons (eVar 3) (aCons (eOp oMod (eVar 2) (eVar 3)) aNil)))
def c_l_low_1 : SF :=
  (sWh fu_l_low_0 (tTru (eOp oGt (eVar 3) (eC (.int 0))))
    c_l_low_1_0)
def c_l_low_2 : SF :=
  (sIf (tTru (eOp oLt (eVar 1) (eC (.int 0))))
    (sPar 0 1 (aCons (eOp oSub (eC (.int 0)) (eVar 0)) (aCons (eOp oSub (eC (.int 0)) (eVar 1)) aNil)))
    sNil)
def c_l_low_3 : SF :=
  (sRet (eTup (aCons (eOp oDiv (eVar 0) (eVar 2)) (aCons (eOp oDiv (eVar 1) (eVar 2)) aNil))))
def b_l_low : SF :=
  (sSeq c_l_low_0
    (sSeq c_l_low_1
    (sSeq c_l_low_2
    c_l_low_3)))
def F_l_low : FF := runF 4 2 b_l_low
def c_l_less_0 : SF :=
  (sRet (eOp oLt (eOp oMul (eOp oIx (eVar 0) (eC (.int 0))) (eOp oIx (eVar 1) (eC (.int 1)))) (eOp oMul (eOp oIx (eVar 1) (eC (.int 0))) (eOp oIx (eVar 0) (eC (.int 1))))))
def b_l_less : SF :=
  c_l_less_0
def F_l_less : FF := runF 2 2 b_l_less
def c_l_same_0 (F_l_same : FF) : SF :=
  (sIf (tTru (eIs2 (eVar 1) "tuple" "list"))
    (sSeq (sIf (bOr (bNot (tTru (eIs2 (eVar 0) "tuple" "list"))) (tTru (eOp oNe (eIs (eVar 0) "list") (eIs (eVar 1) "list"))))
    (sRet (eC (.bl false)))
    sNil)
    (sSeq (sIf (tTru (eOp oNe (eB cLen (aCons (eVar 0) aNil)) (eB cLen (aCons (eVar 1) aNil))))
    (sRet (eC (.bl false)))
    sNil)
    (sRet (eB cAll (aCons (eLc (iZip (aCons (eVar 0) (aCons (eVar 1) aNil))) (.tp [(.nm 2), (.nm 3)]) cYes (eCall F_l_same (aCons (eVar 2) (aCons (eVar 3) aNil))) [2, 3]) aNil)))))
    sNil)
def c_l_same_1 (F_l_same : FF) : SF :=
  (sIf (bOr (tTru (eOp oIs (eVar 1) (eC .non))) (tTru (eOp oIs (eVar 0) (eC .non))))
    (sRet (eAnd (eOp oIs (eVar 0) (eC .non)) (eOp oIs (eVar 1) (eC .non))))
    sNil)
def c_l_same_2 (F_l_same : FF) : SF :=
  (sIf (bOr (tTru (eOp oNe (eIs (eVar 0) "bool") (eIs (eVar 1) "bool"))) (tTru (eOp oNe (eIs (eVar 0) "str") (eIs (eVar 1) "str"))))
    (sRet (eC (.bl false)))
    sNil)
def c_l_same_3 (F_l_same : FF) : SF :=
  (sIf (tTru (eOp oNe (eIs (eVar 0) "int") (eIs (eVar 1) "int")))
    (sRet (eC (.bl false)))
    sNil)
def c_l_same_4 (F_l_same : FF) : SF :=
  (sRet (eOp oEq (eVar 0) (eVar 1)))
def b_l_same (F_l_same : FF) : SF :=
  (sSeq (c_l_same_0 F_l_same)
    (sSeq (c_l_same_1 F_l_same)
    (sSeq (c_l_same_2 F_l_same)
    (sSeq (c_l_same_3 F_l_same)
    (c_l_same_4 F_l_same)))))
def R_l_same : Nat → FF
  | 0 => fun _ _ => .no
  | d + 1 => runF 4 2 (b_l_same (R_l_same d))
abbrev F_l_same : FF := R_l_same 12
def c_fraction_0 : SF :=
  (sIf (bOr (bNot (tTru (eCall F_is_whole (aCons (eVar 0) aNil)))) (bNot (tTru (eCall F_is_whole (aCons (eVar 1) aNil)))))
    (sRaise "NoFraction")
    sNil)
def c_fraction_1 : SF :=
  (sIf (tTru (eOp oEq (eVar 1) (eC (.int 0))))
    (sRaise "NoFraction")
    sNil)
def c_fraction_2 : SF :=
  (sRet (eCall F_in_lowest_terms (aCons (eVar 0) (aCons (eVar 1) aNil))))
def b_fraction : SF :=
  (sSeq c_fraction_0
    (sSeq c_fraction_1
    c_fraction_2))
def F_fraction : FF := runF 2 2 b_fraction
def c_l_add_0 : SF :=
  (sRet (eCall F_l_low (aCons (eOp oAdd (eOp oMul (eOp oIx (eVar 0) (eC (.int 0))) (eOp oIx (eVar 1) (eC (.int 1)))) (eOp oMul (eOp oIx (eVar 1) (eC (.int 0))) (eOp oIx (eVar 0) (eC (.int 1))))) (aCons (eOp oMul (eOp oIx (eVar 0) (eC (.int 1))) (eOp oIx (eVar 1) (eC (.int 1)))) aNil))))
def b_l_add : SF :=
  c_l_add_0
def F_l_add : FF := runF 2 2 b_l_add
def c_l_sub_0 : SF :=
  (sRet (eCall F_l_low (aCons (eOp oSub (eOp oMul (eOp oIx (eVar 0) (eC (.int 0))) (eOp oIx (eVar 1) (eC (.int 1)))) (eOp oMul (eOp oIx (eVar 1) (eC (.int 0))) (eOp oIx (eVar 0) (eC (.int 1))))) (aCons (eOp oMul (eOp oIx (eVar 0) (eC (.int 1))) (eOp oIx (eVar 1) (eC (.int 1)))) aNil))))
def b_l_sub : SF :=
  c_l_sub_0
def F_l_sub : FF := runF 2 2 b_l_sub
def c_l_number_0 : SF :=
  (sPar 1 2 (aCons (eCall F_l_draw (aCons (eVar 0) (aCons (eC (.int 5)) aNil))) (aCons (eCall F_l_draw (aCons (eVar 0) (aCons (eC (.int 13)) aNil))) aNil)))
def c_l_number_1 : SF :=
  (sIf (tTru (eOp oEq (eVar 1) (eC (.int 2))))
    (sAsg (.nm 2) (eCall F_l_draw (aCons (eVar 0) (aCons (eOp oPow (eC (.int 10)) (eC (.int 12))) aNil))))
    sNil)
def c_l_number_2 : SF :=
  (sIf (tTru (eOp oEq (eVar 1) (eC (.int 3))))
    (sAsg (.nm 2) (eOp oSub (eOp oSub (eOp oPow (eC (.int 10)) (eC (.int 12))) (eC (.int 1))) (eCall F_l_draw (aCons (eVar 0) (aCons (eC (.int 3)) aNil)))))
    sNil)
def c_l_number_3 : SF :=
  (sIf (tTru (eOp oEq (eVar 1) (eC (.int 4))))
    (sFor (iRng (aCons (eC (.int 5)) aNil)) (.nm 3)
    (sAsg (.nm 2) (eOp oAdd (eOp oMul (eOp oMod (eVar 2) (eOp oPow (eC (.int 10)) (eC (.int 48)))) (eOp oPow (eC (.int 10)) (eC (.int 12)))) (eCall F_l_draw (aCons (eVar 0) (aCons (eOp oPow (eC (.int 10)) (eC (.int 12))) aNil))))))
    sNil)
def c_l_number_4 : SF :=
  (sRet (eOp oMul (eVar 2) (eOp oIx (eLst (aCons (eC (.int 1)) (aCons (eNeg (eC (.int 1))) aNil))) (eCall F_l_draw (aCons (eVar 0) (aCons (eC (.int 2)) aNil))))))
def b_l_number : SF :=
  (sSeq c_l_number_0
    (sSeq c_l_number_1
    (sSeq c_l_number_2
    (sSeq c_l_number_3
    c_l_number_4))))
def F_l_number : FF := runF 4 1 b_l_number
def c_is_fraction_0 : SF :=
  (sIf (bOr (bNot (tTru (eIs (eVar 0) "tuple"))) (tTru (eOp oNe (eB cLen (aCons (eVar 0) aNil)) (eC (.int 2)))))
    (sRet (eC (.bl false)))
    sNil)
def c_is_fraction_1 : SF :=
  (sAsg (.tp [(.nm 1), (.nm 2)]) (eVar 0))
def c_is_fraction_2 : SF :=
  (sIf (bOr (bNot (tTru (eIs (eVar 1) "int"))) (bNot (tTru (eIs (eVar 2) "int"))))
    (sRet (eC (.bl false)))
    sNil)
def c_is_fraction_3 : SF :=
  (sIf (bOr (tTru (eOp oIs (eVar 1) (eC (.bl true)))) (bOr (tTru (eOp oIs (eVar 1) (eC (.bl false)))) (tTru (eOp oIs (eVar 2) (eC (.bl true))))))
    (sRet (eC (.bl false)))
    sNil)
def c_is_fraction_4 : SF :=
  (sRet (eOr (eOp oEq (eVar 2) (eC (.int 1))) (eAnd (eOp oGt (eVar 2) (eC (.int 1))) (eOp oEq (eB cGcd (aCons (eVar 1) (aCons (eVar 2) aNil))) (eC (.int 1))))))
def b_is_fraction : SF :=
  (sSeq c_is_fraction_0
    (sSeq c_is_fraction_1
    (sSeq c_is_fraction_2
    (sSeq c_is_fraction_3
    c_is_fraction_4))))
def F_is_fraction : FF := runF 3 1 b_is_fraction
def c_plus_0 : SF :=
  (sAsg (.nm 2) (eOp oAdd (eOp oMul (eOp oIx (eVar 0) (eC (.int 0))) (eOp oIx (eVar 1) (eC (.int 1)))) (eOp oMul (eOp oIx (eVar 1) (eC (.int 0))) (eOp oIx (eVar 0) (eC (.int 1))))))
def c_plus_1 : SF :=
  (sAsg (.nm 3) (eOp oMul (eOp oIx (eVar 0) (eC (.int 1))) (eOp oIx (eVar 1) (eC (.int 1)))))
def c_plus_2 : SF :=
  (sAsg (.nm 4) (eB cGcd (aCons (eVar 2) (aCons (eVar 3) aNil))))
def c_plus_3 : SF :=
  (sRet (eTup (aCons (eOp oDiv (eVar 2) (eVar 4)) (aCons (eOp oDiv (eVar 3) (eVar 4)) aNil))))
def b_plus : SF :=
  (sSeq c_plus_0
    (sSeq c_plus_1
    (sSeq c_plus_2
    c_plus_3)))
def F_plus : FF := runF 5 2 b_plus
def c_minus_0 : SF :=
  (sAsg (.nm 2) (eOp oSub (eOp oMul (eOp oIx (eVar 0) (eC (.int 0))) (eOp oIx (eVar 1) (eC (.int 1)))) (eOp oMul (eOp oIx (eVar 1) (eC (.int 0))) (eOp oIx (eVar 0) (eC (.int 1))))))
def c_minus_1 : SF :=
  (sAsg (.nm 3) (eOp oMul (eOp oIx (eVar 0) (eC (.int 1))) (eOp oIx (eVar 1) (eC (.int 1)))))
def c_minus_2 : SF :=
  (sAsg (.nm 4) (eB cGcd (aCons (eVar 2) (aCons (eVar 3) aNil))))
def c_minus_3 : SF :=
  (sRet (eTup (aCons (eOp oDiv (eVar 2) (eVar 4)) (aCons (eOp oDiv (eVar 3) (eVar 4)) aNil))))
def b_minus : SF :=
  (sSeq c_minus_0
    (sSeq c_minus_1
    (sSeq c_minus_2
    c_minus_3)))
def F_minus : FF := runF 5 2 b_minus
def c_times_0 : SF :=
  (sAsg (.nm 2) (eOp oMul (eOp oIx (eVar 0) (eC (.int 0))) (eOp oIx (eVar 1) (eC (.int 0)))))
def c_times_1 : SF :=
  (sAsg (.nm 3) (eOp oMul (eOp oIx (eVar 0) (eC (.int 1))) (eOp oIx (eVar 1) (eC (.int 1)))))
def c_times_2 : SF :=
  (sAsg (.nm 4) (eB cGcd (aCons (eVar 2) (aCons (eVar 3) aNil))))
def c_times_3 : SF :=
  (sRet (eTup (aCons (eOp oDiv (eVar 2) (eVar 4)) (aCons (eOp oDiv (eVar 3) (eVar 4)) aNil))))
def b_times : SF :=
  (sSeq c_times_0
    (sSeq c_times_1
    (sSeq c_times_2
    c_times_3)))
def F_times : FF := runF 5 2 b_times
def c_over_0 : SF :=
  (sIf (tTru (eOp oEq (eVar 1) (eC (.tup [(.int 0), (.int 1)]))))
    (sRaise "NoFraction")
    sNil)
def c_over_1 : SF :=
  (sRet (eCall F_in_lowest_terms (aCons (eOp oMul (eOp oIx (eVar 0) (eC (.int 0))) (eOp oIx (eVar 1) (eC (.int 1)))) (aCons (eOp oMul (eOp oIx (eVar 0) (eC (.int 1))) (eOp oIx (eVar 1) (eC (.int 0)))) aNil))))
def b_over : SF :=
  (sSeq c_over_0
    c_over_1)
def F_over : FF := runF 2 2 b_over
def c_l_order_right_0 : SF :=
  (sPar 3 4 (aCons (eCall F_is_less (aCons (eVar 0) (aCons (eVar 1) aNil))) (aCons (eCall F_is_less (aCons (eVar 1) (aCons (eVar 0) aNil))) aNil)))
def c_l_order_right_1 : SF :=
  (sIf (bOr (bNot (tTru (eIs (eVar 3) "bool"))) (bOr (bNot (tTru (eIs (eVar 4) "bool"))) (tTru (eOp oNe (eCnt (eLst (aCons (eVar 3) (aCons (eVar 4) aNil))) (eC (.bl true))) (eB cInt (aCons (eOp oNe (eVar 0) (eVar 1)) aNil))))))
    (sRet (eC (.bl false)))
    sNil)
def c_l_order_right_2 : SF :=
  (sIf (bOr (tTru (eOp oNe (eCall F_is_less (aCons (eCall F_plus (aCons (eVar 0) (aCons (eVar 2) aNil))) (aCons (eCall F_plus (aCons (eVar 1) (aCons (eVar 2) aNil))) aNil))) (eVar 3))) (tTru (eCall F_is_less (aCons (eVar 0) (aCons (eVar 0) aNil)))))
    (sRet (eC (.bl false)))
    sNil)
def c_l_order_right_3 : SF :=
  (sIf (tTru (eOp oEq (eOp oIx (eVar 2) (eC (.int 0))) (eC (.int 0))))
    (sRet (eC (.bl true)))
    sNil)
def c_l_order_right_4 : SF :=
  (sRet (eOp oEq (eCall F_is_less (aCons (eCall F_times (aCons (eVar 0) (aCons (eVar 2) aNil))) (aCons (eCall F_times (aCons (eVar 1) (aCons (eVar 2) aNil))) aNil))) (eOp oIx (eLst (aCons (eVar 3) (aCons (eVar 4) aNil))) (eB cInt (aCons (eOp oLt (eOp oIx (eVar 2) (eC (.int 0))) (eC (.int 0))) aNil)))))
def b_l_order_right : SF :=
  (sSeq c_l_order_right_0
    (sSeq c_l_order_right_1
    (sSeq c_l_order_right_2
    (sSeq c_l_order_right_3
    c_l_order_right_4))))
def F_l_order_right : FF := runF 5 3 b_l_order_right
def c_l_sums_0 : SF :=
  (sAsg (.nm 3) (eLstS (aCons (eTup (aCons (eCall F_plus (aCons (eVar 0) (aCons (eVar 1) aNil))) (aCons (eCall F_plus (aCons (eVar 1) (aCons (eVar 0) aNil))) aNil))) (aCons (eTup (aCons (eCall F_times (aCons (eVar 0) (aCons (eVar 1) aNil))) (aCons (eCall F_times (aCons (eVar 1) (aCons (eVar 0) aNil))) aNil))) aNil))))
def c_l_sums_1 : SF :=
  (sExpr (eApp (eVar 3) (eTup (aCons (eCall F_plus (aCons (eCall F_plus (aCons (eVar 0) (aCons (eVar 1) aNil))) (aCons (eVar 2) aNil))) (aCons (eCall F_plus (aCons (eVar 0) (aCons (eCall F_plus (aCons (eVar 1) (aCons (eVar 2) aNil))) aNil))) aNil)))))
def c_l_sums_2 : SF :=
  (sExpr (eApp (eVar 3) (eTup (aCons (eCall F_times (aCons (eCall F_times (aCons (eVar 0) (aCons (eVar 1) aNil))) (aCons (eVar 2) aNil))) (aCons (eCall F_times (aCons (eVar 0) (aCons (eCall F_times (aCons (eVar 1) (aCons (eVar 2) aNil))) aNil))) aNil)))))
def c_l_sums_3 : SF :=
  (sExpr (eApp (eVar 3) (eTup (aCons (eCall F_times (aCons (eCall F_plus (aCons (eVar 0) (aCons (eVar 1) aNil))) (aCons (eVar 2) aNil))) (aCons (eCall F_plus (aCons (eCall F_times (aCons (eVar 0) (aCons (eVar 2) aNil))) (aCons (eCall F_times (aCons (eVar 1) (aCons (eVar 2) aNil))) aNil))) aNil)))))
def c_l_sums_4 : SF :=
  (sAsg (.nm 3) (eOp oAddS (eVar 3) (eLst (aCons (eTup (aCons (eCall F_minus (aCons (eCall F_plus (aCons (eVar 0) (aCons (eVar 1) aNil))) (aCons (eVar 1) aNil))) (aCons (eVar 0) aNil))) (aCons (eTup (aCons (eCall F_minus (aCons (eVar 0) (aCons (eVar 0) aNil))) (aCons (eTup (aCons (eC (.int 0)) (aCons (eC (.int 1)) aNil))) aNil))) (aCons (eTup (aCons (eCall F_plus (aCons (eVar 0) (aCons (eTup (aCons (eC (.int 0)) (aCons (eC (.int 1)) aNil))) aNil))) (aCons (eVar 0) aNil))) aNil))))))
def c_l_sums_5 : SF :=
  (sAsg (.nm 3) (eOp oAddS (eVar 3) (eLst (aCons (eTup (aCons (eCall F_times (aCons (eVar 0) (aCons (eTup (aCons (eC (.int 1)) (aCons (eC (.int 1)) aNil))) aNil))) (aCons (eVar 0) aNil))) (aCons (eTup (aCons (eCall F_minus (aCons (eVar 0) (aCons (eVar 1) aNil))) (aCons (eCall F_times (aCons (eTup (aCons (eNeg (eC (.int 1))) (aCons (eC (.int 1)) aNil))) (aCons (eCall F_minus (aCons (eVar 1) (aCons (eVar 0) aNil))) aNil))) aNil))) aNil)))))
def c_l_sums_6 : SF :=
  (sIf (tTru (eOp oNe (eOp oIx (eVar 1) (eC (.int 0))) (eC (.int 0))))
    (sSeq (sAsg (.nm 3) (eOp oAddS (eVar 3) (eLst (aCons (eTup (aCons (eCall F_over (aCons (eCall F_times (aCons (eVar 0) (aCons (eVar 1) aNil))) (aCons (eVar 1) aNil))) (aCons (eVar 0) aNil))) (aCons (eTup (aCons (eCall F_times (aCons (eCall F_over (aCons (eVar 0) (aCons (eVar 1) aNil))) (aCons (eVar 1) aNil))) (aCons (eVar 0) aNil))) aNil)))))
    (sAsg (.nm 3) (eOp oAddS (eVar 3) (eLst (aCons (eTup (aCons (eCall F_over (aCons (eVar 1) (aCons (eVar 1) aNil))) (aCons (eTup (aCons (eC (.int 1)) (aCons (eC (.int 1)) aNil))) aNil))) (aCons (eTup (aCons (eCall F_over (aCons (eVar 0) (aCons (eVar 1) aNil))) (aCons (eCall F_times (aCons (eVar 0) (aCons (eCall F_over (aCons (eTup (aCons (eC (.int 1)) (aCons (eC (.int 1)) aNil))) (aCons (eVar 1) aNil))) aNil))) aNil))) aNil))))))
    sNil)
def c_l_sums_7 : SF :=
  (sRet (eVar 3))
def b_l_sums : SF :=
  (sSeq c_l_sums_0
    (sSeq c_l_sums_1
    (sSeq c_l_sums_2
    (sSeq c_l_sums_3
    (sSeq c_l_sums_4
    (sSeq c_l_sums_5
    (sSeq c_l_sums_6
    c_l_sums_7)))))))
def F_l_sums : FF := runF 4 3 b_l_sums
def c_l_floor_right_0 : SF :=
  (sAsg (.nm 1) (eCall F_floor_of (aCons (eVar 0) aNil)))
def c_l_floor_right_1 : SF :=
  (sIf (bOr (bNot (tTru (eIs (eVar 1) "int"))) (tTru (eIs (eVar 1) "bool")))
    (sRet (eC (.bl false)))
    sNil)
def c_l_floor_right_2 : SF :=
  (sPar 2 3 (aCons (eCall F_fraction (aCons (eVar 1) (aCons (eC (.int 1)) aNil))) (aCons (eCall F_fraction (aCons (eOp oAdd (eVar 1) (eC (.int 1))) (aCons (eC (.int 1)) aNil))) aNil)))
def c_l_floor_right_3 : SF :=
  (sRet (eAnd (eNot (eCall F_is_less (aCons (eVar 0) (aCons (eVar 2) aNil)))) (eCall F_is_less (aCons (eVar 0) (aCons (eVar 3) aNil)))))
def b_l_floor_right : SF :=
  (sSeq c_l_floor_right_0
    (sSeq c_l_floor_right_1
    (sSeq c_l_floor_right_2
    c_l_floor_right_3)))
def F_l_floor_right : FF := runF 4 1 b_l_floor_right
def c_is_whole_within_0 : SF :=
  (sRet (eAnd (eIs (eVar 0) "int") (eAnd (eOp oIsnt (eVar 0) (eC (.bl true))) (eAnd (eOp oIsnt (eVar 0) (eC (.bl false))) (eChain oLe oLe (eVar 1) (eVar 0) (eVar 2))))))
def b_is_whole_within : SF :=
  c_is_whole_within_0
def F_is_whole_within : FF := runF 3 3 b_is_whole_within
def c_is_tuple_of_0 : SF :=
  (sRet (eAnd (eIs (eVar 0) "tuple") (eOp oEq (eB cLen (aCons (eVar 0) aNil)) (eVar 1))))
def b_is_tuple_of : SF :=
  c_is_tuple_of_0
def F_is_tuple_of : FF := runF 2 2 b_is_tuple_of
def c_line_of_0 : SF :=
  (sAsg (.tp [(.nm 1), (.tp [(.nm 2), (.nm 3)]), (.tp [(.nm 4), (.nm 5)])]) (eVar 0))
def c_line_of_1 : SF :=
  (sAsg (.nm 6) (eOp oMul (eOp oMul (eOp oMul (eC (.int 2)) (eVar 1)) (eVar 2)) (eVar 5)))
def c_line_of_2 : SF :=
  (sAsg (.nm 7) (eOp oSub (eOp oMul (eVar 4) (eVar 3)) (eOp oMul (eVar 2) (eVar 5))))
def c_line_of_3 : SF :=
  (sRet (eTup (aCons (eVar 6) (aCons (eVar 7) (aCons (eOp oMul (eOp oMul (eOp oMul (eC (.int 2)) (eVar 1)) (eVar 3)) (eVar 5)) aNil)))))
def b_line_of : SF :=
  (sSeq c_line_of_0
    (sSeq c_line_of_1
    (sSeq c_line_of_2
    c_line_of_3)))
def F_line_of : FF := runF 8 1 b_line_of
def fu_step_at_0 : Lc → Sto → Nat := fun (ρ : Lc) _ => 1000
def c_step_at_0 : SF :=
  (sAsg (.tp [(.nm 3), (.nm 4), (.nm 5)]) (eVar 0))
def c_step_at_1 : SF :=
  (sAsg (.nm 6) (eC (.int 0)))
def c_step_at_2 : SF :=
  (sAsg (.nm 7) (eOp oSub (eVar 1) (eC (.int 1))))
def c_step_at_3_0 : SF :=
  (sAsg (.nm 8) (eOp oDiv (eOp oAdd (eOp oAdd (eVar 6) (eVar 7)) (eC (.int 1))) (eC (.int 2))))
def c_step_at_3_1 : SF :=
  (sIf (tTru (eOp oLe (eOp oMul (eVar 8) (eOp oAdd (eVar 3) (eOp oMul (eVar 8) (eVar 4)))) (eVar 2)))
    (sAsg (.nm 6) (eVar 8))
    (sAsg (.nm 7) (eOp oSub (eVar 8) (eC (.int 1)))))
def c_step_at_3 : SF :=
  (sWh fu_step_at_0 (tTru (eOp oLt (eVar 6) (eVar 7)))
    (sSeq c_step_at_3_0
    c_step_at_3_1))
def c_step_at_4 : SF :=
  (sRet (eVar 6))
def b_step_at : SF :=
  (sSeq c_step_at_0
    (sSeq c_step_at_1
    (sSeq c_step_at_2
    (sSeq c_step_at_3
    c_step_at_4))))
def F_step_at : FF := runF 9 3 b_step_at
def c_l_edges_0 : SF :=
  (sAsg (.nm 1) (eLstS (aCons (eC (.int 0)) aNil)))
def c_l_edges_1_0 : SF :=
  (sExpr (eApp (eVar 1) (eOp oAdd (eOp oIx (eVar 1) (eNeg (eC (.int 1)))) (eOp oIx (eVar 2) (eC (.int 0))))))
def c_l_edges_1 : SF :=
  (sFor (iSeq (eOp oIx (eVar 0) (eC (.int 0)))) (.nm 2)
    c_l_edges_1_0)
def c_l_edges_2 : SF :=
  (sRet (eVar 1))
def b_l_edges : SF :=
  (sSeq c_l_edges_0
    (sSeq c_l_edges_1
    c_l_edges_2))
def F_l_edges : FF := runF 3 1 b_l_edges
def c_is_from_nought_0 : SF :=
  (sRet (eAnd (eCall F_is_fraction (aCons (eVar 0) aNil)) (eOp oGe (eOp oIx (eVar 0) (eC (.int 0))) (eC (.int 0)))))
def b_is_from_nought : SF :=
  c_is_from_nought_0
def F_is_from_nought : FF := runF 1 1 b_is_from_nought
def c_is_above_nought_0 : SF :=
  (sRet (eAnd (eCall F_is_fraction (aCons (eVar 0) aNil)) (eOp oGt (eOp oIx (eVar 0) (eC (.int 0))) (eC (.int 0)))))
def b_is_above_nought : SF :=
  c_is_above_nought_0
def F_is_above_nought : FF := runF 1 1 b_is_above_nought
def c_length_within_0 : SF :=
  (sAsg (.tp [(.nm 2), (.nm 3), (.nm 4)]) (eVar 0))
def c_length_within_1 : SF :=
  (sRet (eCall F_in_lowest_terms (aCons (eOp oAdd (eVar 2) (eOp oMul (eOp oAdd (eOp oMul (eC (.int 2)) (eVar 1)) (eC (.int 1))) (eVar 3))) (aCons (eVar 4) aNil))))
def b_length_within : SF :=
  (sSeq c_length_within_0
    c_length_within_1)
def F_length_within : FF := runF 5 2 b_length_within
def c_length_of_steps_0 : SF :=
  (sAsg (.tp [(.nm 2), (.nm 3), (.nm 4)]) (eVar 0))
def c_length_of_steps_1 : SF :=
  (sRet (eCall F_in_lowest_terms (aCons (eOp oMul (eVar 1) (eOp oAdd (eVar 2) (eOp oMul (eVar 1) (eVar 3)))) (aCons (eVar 4) aNil))))
def b_length_of_steps : SF :=
  (sSeq c_length_of_steps_0
    c_length_of_steps_1)
def F_length_of_steps : FF := runF 5 2 b_length_of_steps
def c_moment_within_0 : SF :=
  (sAsg (.tp [(.nm 2), (.nm 3), (.nm 4)]) (eVar 0))
def c_moment_within_1 : SF :=
  (sAsg (.tp [(.nm 5), (.nm 6)]) (eB cDivmod (aCons (eOp oIx (eVar 1) (eC (.int 0))) (aCons (eOp oIx (eVar 1) (eC (.int 1))) aNil))))
def c_moment_within_2 : SF :=
  (sAsg (.nm 7) (eOp oMul (eVar 5) (eOp oAdd (eVar 2) (eOp oMul (eVar 5) (eVar 3)))))
def c_moment_within_3 : SF :=
  (sAsg (.nm 8) (eOp oAdd (eVar 2) (eOp oMul (eOp oAdd (eOp oMul (eC (.int 2)) (eVar 5)) (eC (.int 1))) (eVar 3))))
def c_moment_within_4 : SF :=
  (sRet (eCall F_in_lowest_terms (aCons (eOp oAdd (eOp oMul (eVar 7) (eOp oIx (eVar 1) (eC (.int 1)))) (eOp oMul (eVar 6) (eVar 8))) (aCons (eOp oMul (eVar 4) (eOp oIx (eVar 1) (eC (.int 1)))) aNil))))
def b_moment_within : SF :=
  (sSeq c_moment_within_0
    (sSeq c_moment_within_1
    (sSeq c_moment_within_2
    (sSeq c_moment_within_3
    c_moment_within_4))))
def F_moment_within : FF := runF 9 2 b_moment_within
def c_place_within_0 : SF :=
  (sAsg (.tp [(.nm 3), (.nm 4), (.nm 5)]) (eVar 0))
def c_place_within_1 : SF :=
  (sAsg (.nm 6) (eOp oMul (eOp oIx (eVar 2) (eC (.int 0))) (eVar 5)))
def c_place_within_2 : SF :=
  (sAsg (.nm 7) (eCall F_step_at (aCons (eVar 0) (aCons (eVar 1) (aCons (eOp oDiv (eVar 6) (eOp oIx (eVar 2) (eC (.int 1)))) aNil)))))
def c_place_within_3 : SF :=
  (sAsg (.nm 8) (eOp oMul (eOp oAdd (eVar 3) (eOp oMul (eOp oAdd (eOp oMul (eC (.int 2)) (eVar 7)) (eC (.int 1))) (eVar 4))) (eOp oIx (eVar 2) (eC (.int 1)))))
def c_place_within_4 : SF :=
  (sAsg (.nm 9) (eOp oSub (eVar 6) (eOp oMul (eOp oMul (eVar 7) (eOp oAdd (eVar 3) (eOp oMul (eVar 7) (eVar 4)))) (eOp oIx (eVar 2) (eC (.int 1))))))
def c_place_within_5 : SF :=
  (sRet (eCall F_in_lowest_terms (aCons (eOp oAdd (eOp oMul (eVar 7) (eVar 8)) (eVar 9)) (aCons (eVar 8) aNil))))
def b_place_within : SF :=
  (sSeq c_place_within_0
    (sSeq c_place_within_1
    (sSeq c_place_within_2
    (sSeq c_place_within_3
    (sSeq c_place_within_4
    c_place_within_5)))))
def F_place_within : FF := runF 10 3 b_place_within
def c_l_mul_0 : SF :=
  (sRet (eCall F_l_low (aCons (eOp oMul (eOp oIx (eVar 0) (eC (.int 0))) (eOp oIx (eVar 1) (eC (.int 0)))) (aCons (eOp oMul (eOp oIx (eVar 0) (eC (.int 1))) (eOp oIx (eVar 1) (eC (.int 1)))) aNil))))
def b_l_mul : SF :=
  c_l_mul_0
def F_l_mul : FF := runF 2 2 b_l_mul
def c_l_above_0 : SF :=
  (sAsg (.nm 1) (eOp oIx (eLst (aCons (eC (.int 6)) (aCons (eC (.int 6)) (aCons (eC (.int 12)) (aCons (eC (.int 12)) (aCons (eOp oSub (eOp oPow (eC (.int 10)) (eC (.int 9))) (eC (.int 1))) aNil)))))) (eCall F_l_draw (aCons (eVar 0) (aCons (eC (.int 5)) aNil)))))
def c_l_above_1 : SF :=
  (sRet (eCall F_l_low (aCons (eOp oAdd (eC (.int 1)) (eCall F_l_draw (aCons (eVar 0) (aCons (eVar 1) aNil)))) (aCons (eOp oAdd (eC (.int 1)) (eCall F_l_draw (aCons (eVar 0) (aCons (eVar 1) aNil)))) aNil))))
def b_l_above : SF :=
  (sSeq c_l_above_0
    c_l_above_1)
def F_l_above : FF := runF 2 1 b_l_above
def c_l_rising_0_0_0 : SF :=
  (sIf (bOr (tTru (eOp oNe (eCall F_l_less (aCons (eVar 2) (aCons (eVar 4) aNil))) (eCall F_l_less (aCons (eVar 3) (aCons (eVar 5) aNil))))) (tTru (eOp oNe (eOp oEq (eVar 2) (eVar 4)) (eOp oEq (eVar 3) (eVar 5)))))
    (sRet (eC (.bl false)))
    sNil)
def c_l_rising_0_0 : SF :=
  (sFor (iZip (aCons (eVar 0) (aCons (eVar 1) aNil))) (.tp [(.nm 4), (.nm 5)])
    c_l_rising_0_0_0)
def c_l_rising_0 : SF :=
  (sFor (iZip (aCons (eVar 0) (aCons (eVar 1) aNil))) (.tp [(.nm 2), (.nm 3)])
    c_l_rising_0_0)
def c_l_rising_1 : SF :=
  (sRet (eC (.bl true)))
def b_l_rising : SF :=
  (sSeq c_l_rising_0
    c_l_rising_1)
def F_l_rising : FF := runF 6 2 b_l_rising
def c_is_stretch_0 : SF :=
  (sIf (bNot (tTru (eCall F_is_tuple_of (aCons (eVar 0) (aCons (eC (.int 3)) aNil)))))
    (sRet (eC (.bl false)))
    sNil)
def c_is_stretch_1 : SF :=
  (sAsg (.tp [(.nm 1), (.nm 2), (.nm 3)]) (eVar 0))
def c_is_stretch_2 : SF :=
  (sRet (eAnd (eCall F_is_whole_within (aCons (eVar 1) (aCons (eC (.int 1)) (aCons (eC (.int 200000)) aNil)))) (eAnd (eCall F_is_above_nought (aCons (eVar 2) aNil)) (eCall F_is_above_nought (aCons (eVar 3) aNil)))))
def b_is_stretch : SF :=
  (sSeq c_is_stretch_0
    (sSeq c_is_stretch_1
    c_is_stretch_2))
def F_is_stretch : FF := runF 4 1 b_is_stretch
def c_Clock_init_0 : SF :=
  (sAsgNF 2 "Clock" "rest" (eVar 1) (eVar 0))
def c_Clock_init_1 : SF :=
  (sFld "Clock" "parts" (eVar 0) (eLstS aNil))
def c_Clock_init_2 : SF :=
  (sFld "Clock" "step" (eVar 0) (eC (.int 0)))
def c_Clock_init_3 : SF :=
  (sFld "Clock" "moment" (eVar 0) (eC (.tup [(.int 0), (.int 1)])))
def c_Clock_init_4 : SF :=
  (sFld "Clock" "known" (eVar 0) eDttS)
def c_Clock_init_5_0 : SF :=
  (sAsg (.nm 4) (eOp oAdd (eFld "Clock" "step" (eVar 0)) (eOp oIx (eVar 3) (eC (.int 0)))))
def c_Clock_init_5_1 : SF :=
  (sAsg (.nm 5) (eCall F_line_of (aCons (eVar 3) aNil)))
def c_Clock_init_5_2 : SF :=
  (sAsg (.nm 6) (eCall F_plus (aCons (eFld "Clock" "moment" (eVar 0)) (aCons (eCall F_length_of_steps (aCons (eVar 5) (aCons (eOp oIx (eVar 3) (eC (.int 0))) aNil))) aNil))))
def c_Clock_init_5_3 : SF :=
  (sExpr (eApp (eFld "Clock" "parts" (eVar 0)) (eTup (aCons (eFld "Clock" "step" (eVar 0)) (aCons (eVar 4) (aCons (eFld "Clock" "moment" (eVar 0)) (aCons (eVar 6) (aCons (eVar 5) aNil))))))))
def c_Clock_init_5_4 : SF :=
  (sFld "Clock" "step" (eVar 0) (eVar 4))
def c_Clock_init_5_5 : SF :=
  (sFld "Clock" "moment" (eVar 0) (eVar 6))
def c_Clock_init_5 : SF :=
  (sFor (iSeq (eVar 2)) (.nm 3)
    (sSeq c_Clock_init_5_0
    (sSeq c_Clock_init_5_1
    (sSeq c_Clock_init_5_2
    (sSeq c_Clock_init_5_3
    (sSeq c_Clock_init_5_4
    c_Clock_init_5_5))))))
def b_Clock_init : SF :=
  (sSeq c_Clock_init_0
    (sSeq c_Clock_init_1
    (sSeq c_Clock_init_2
    (sSeq c_Clock_init_3
    (sSeq c_Clock_init_4
    c_Clock_init_5)))))
def F_Clock_init : FF := runK 7 2 b_Clock_init
def c_Clock_found_at_0 : SF :=
  (sAsg (.nm 2) (eCall F_floor_of (aCons (eVar 1) aNil)))
def c_Clock_found_at_1_0 : SF :=
  (sIf (tTru (eOp oLt (eVar 2) (eVar 4)))
    (sRet (eCall F_plus (aCons (eVar 5) (aCons (eCall F_moment_within (aCons (eVar 7) (aCons (eCall F_minus (aCons (eVar 1) (aCons (eTup (aCons (eVar 3) (aCons (eC (.int 1)) aNil))) aNil))) aNil))) aNil))))
    sNil)
def c_Clock_found_at_1 : SF :=
  (sFor (iSeq (eFld "Clock" "parts" (eVar 0))) (.tp [(.nm 3), (.nm 4), (.nm 5), (.nm 6), (.nm 7)])
    c_Clock_found_at_1_0)
def c_Clock_found_at_2 : SF :=
  (sRet (eCall F_plus (aCons (eFld "Clock" "moment" (eVar 0)) (aCons (eCall F_times (aCons (eCall F_minus (aCons (eVar 1) (aCons (eTup (aCons (eFld "Clock" "step" (eVar 0)) (aCons (eC (.int 1)) aNil))) aNil))) (aCons (eFld "Clock" "rest" (eVar 0)) aNil))) aNil))))
def b_Clock_found_at : SF :=
  (sSeq c_Clock_found_at_0
    (sSeq c_Clock_found_at_1
    c_Clock_found_at_2))
def F_Clock_found_at : FF := runF 8 2 b_Clock_found_at
def c_Clock_place_of_0_0 : SF :=
  (sIf (tTru (eCall F_is_less (aCons (eVar 1) (aCons (eVar 5) aNil))))
    (sRet (eCall F_plus (aCons (eTup (aCons (eVar 2) (aCons (eC (.int 1)) aNil))) (aCons (eCall F_place_within (aCons (eVar 6) (aCons (eOp oSub (eVar 3) (eVar 2)) (aCons (eCall F_minus (aCons (eVar 1) (aCons (eVar 4) aNil))) aNil)))) aNil))))
    sNil)
def c_Clock_place_of_0 : SF :=
  (sFor (iSeq (eFld "Clock" "parts" (eVar 0))) (.tp [(.nm 2), (.nm 3), (.nm 4), (.nm 5), (.nm 6)])
    c_Clock_place_of_0_0)
def c_Clock_place_of_1 : SF :=
  (sRet (eCall F_plus (aCons (eTup (aCons (eFld "Clock" "step" (eVar 0)) (aCons (eC (.int 1)) aNil))) (aCons (eCall F_over (aCons (eCall F_minus (aCons (eVar 1) (aCons (eFld "Clock" "moment" (eVar 0)) aNil))) (aCons (eFld "Clock" "rest" (eVar 0)) aNil))) aNil))))
def b_Clock_place_of : SF :=
  (sSeq c_Clock_place_of_0
    c_Clock_place_of_1)
def F_Clock_place_of : FF := runF 7 2 b_Clock_place_of
def c_length_at_0 : SF :=
  (sAsg (.tp [(.nm 2), (.nm 3)]) (eVar 0))
def c_length_at_1 : SF :=
  (sAsg (.nm 4) (eC (.int 0)))
def c_length_at_2_0 : SF :=
  (sIf (tTru (eOp oLt (eVar 1) (eOp oAdd (eVar 4) (eOp oIx (eVar 5) (eC (.int 0))))))
    (sRet (eCall F_length_within (aCons (eCall F_line_of (aCons (eVar 5) aNil)) (aCons (eOp oSub (eVar 1) (eVar 4)) aNil))))
    sNil)
def c_length_at_2_1 : SF :=
  (sAug 4 (eOp oIx (eVar 5) (eC (.int 0))))
def c_length_at_2 : SF :=
  (sFor (iSeq (eVar 2)) (.nm 5)
    (sSeq c_length_at_2_0
    c_length_at_2_1))
def c_length_at_3 : SF :=
  (sRet (eVar 3))
def b_length_at : SF :=
  (sSeq c_length_at_0
    (sSeq c_length_at_1
    (sSeq c_length_at_2
    c_length_at_3)))
def F_length_at : FF := runF 6 2 b_length_at
def c_refuse_no_place_0 : SF :=
  (sIf (bNot (tTru (eCall F_is_from_nought (aCons (eVar 0) aNil))))
    (sRaise "NoPlace")
    sNil)
def b_refuse_no_place : SF :=
  c_refuse_no_place_0
def F_refuse_no_place : FF := runF 1 1 b_refuse_no_place
def c_refuse_no_moment_0 : SF :=
  (sIf (bNot (tTru (eCall F_is_from_nought (aCons (eVar 0) aNil))))
    (sRaise "NoMoment")
    sNil)
def b_refuse_no_moment : SF :=
  c_refuse_no_moment_0
def F_refuse_no_moment : FF := runF 1 1 b_refuse_no_moment
def c_rise_of_0 : SF :=
  (sAsg (.tp [(.nm 1), (.nm 2), (.nm 3)]) (eVar 0))
def c_rise_of_1 : SF :=
  (sRet (eCall F_over (aCons (eCall F_minus (aCons (eVar 3) (aCons (eVar 2) aNil))) (aCons (eTup (aCons (eVar 1) (aCons (eC (.int 1)) aNil))) aNil))))
def b_rise_of : SF :=
  (sSeq c_rise_of_0
    c_rise_of_1)
def F_rise_of : FF := runF 4 1 b_rise_of
def c_l_goes_on_0 : SF :=
  (sAsg (.nm 2) (eCall F_l_mul (aCons (eCall F_l_sub (aCons (eOp oIx (eVar 0) (eC (.int 2))) (aCons (eOp oIx (eVar 0) (eC (.int 1))) aNil))) (aCons (eTup (aCons (eC (.int 1)) (aCons (eOp oIx (eVar 0) (eC (.int 0))) aNil))) aNil))))
def c_l_goes_on_1 : SF :=
  (sRet (eAnd (eOp oEq (eOp oIx (eVar 0) (eC (.int 2))) (eOp oIx (eVar 1) (eC (.int 1)))) (eOp oEq (eVar 2) (eCall F_l_mul (aCons (eCall F_l_sub (aCons (eOp oIx (eVar 1) (eC (.int 2))) (aCons (eOp oIx (eVar 1) (eC (.int 1))) aNil))) (aCons (eTup (aCons (eC (.int 1)) (aCons (eOp oIx (eVar 1) (eC (.int 0))) aNil))) aNil))))))
def b_l_goes_on : SF :=
  (sSeq c_l_goes_on_0
    c_l_goes_on_1)
def F_l_goes_on : FF := runF 3 2 b_l_goes_on
def c_l_places_0 : SF :=
  (sAsg (.nm 2) (eCall F_l_edges (aCons (eVar 1) aNil)))
def c_l_places_1 : SF :=
  (sAsg (.nm 3) (eOp oAdd (eOp oIx (eVar 2) (eCall F_l_draw (aCons (eVar 0) (aCons (eB cLen (aCons (eVar 2) aNil)) aNil)))) (eCall F_l_draw (aCons (eVar 0) (aCons (eC (.int 3)) aNil)))))
def c_l_places_2 : SF :=
  (sAsg (.nm 4) (eLstS (aCons (eCall F_l_add (aCons (eTup (aCons (eVar 3) (aCons (eC (.int 1)) aNil))) (aCons (eCall F_l_low (aCons (eOp oAdd (eC (.int 1)) (eCall F_l_draw (aCons (eVar 0) (aCons (eC (.int 6)) aNil)))) (aCons (eC (.int 7)) aNil))) aNil))) (aCons (eTup (aCons (eC (.int 0)) (aCons (eC (.int 1)) aNil))) (aCons (eTup (aCons (eVar 3) (aCons (eC (.int 1)) aNil))) aNil)))))
def c_l_places_3 : SF :=
  (sExpr (eApp (eVar 4) (eCall F_l_add (aCons (eTup (aCons (eVar 3) (aCons (eC (.int 1)) aNil))) (aCons (eCall F_l_low (aCons (eOp oAdd (eC (.int 1)) (eCall F_l_draw (aCons (eVar 0) (aCons (eC (.int 10)) aNil)))) (aCons (eC (.int 11)) aNil))) aNil)))))
def c_l_places_4 : SF :=
  (sAsg (.nm 4) (eOp oAddS (eVar 4) (eLst (aCons (eTup (aCons (eOp oIx (eVar 2) (eCall F_l_draw (aCons (eVar 0) (aCons (eB cLen (aCons (eVar 2) aNil)) aNil)))) (aCons (eC (.int 1)) aNil))) (aCons (eTup (aCons (eOp oAdd (eOp oIx (eVar 2) (eNeg (eC (.int 1)))) (eCall F_l_draw (aCons (eVar 0) (aCons (eOp oPow (eC (.int 10)) (eC (.int 6))) aNil)))) (aCons (eC (.int 1)) aNil))) aNil)))))
def c_l_places_5 : SF :=
  (sExpr (eApp (eVar 4) (eCall F_l_low (aCons (eCall F_l_draw (aCons (eVar 0) (aCons (eOp oAdd (eC (.int 1)) (eOp oMul (eC (.int 97)) (eOp oIx (eVar 2) (eNeg (eC (.int 1)))))) aNil))) (aCons (eC (.int 97)) aNil)))))
def c_l_places_6 : SF :=
  (sRet (eVar 4))
def b_l_places : SF :=
  (sSeq c_l_places_0
    (sSeq c_l_places_1
    (sSeq c_l_places_2
    (sSeq c_l_places_3
    (sSeq c_l_places_4
    (sSeq c_l_places_5
    c_l_places_6))))))
def F_l_places : FF := runF 5 2 b_l_places
def c_l_far_0 : SF :=
  (sPar 1 2 (aCons (eCall F_l_above (aCons (eVar 0) aNil)) (aCons (eCall F_l_above (aCons (eVar 0) aNil)) aNil)))
def c_l_far_1 : SF :=
  (sAsg (.nm 3) (eOp oSub (eC (.int 200000)) (eOp oIx (eLst (aCons (eC (.int 0)) (aCons (eCall F_l_draw (aCons (eVar 0) (aCons (eC (.int 150000)) aNil))) aNil))) (eCall F_l_draw (aCons (eVar 0) (aCons (eC (.int 2)) aNil))))))
def c_l_far_2 : SF :=
  (sAsg (.nm 4) (eCall F_l_add (aCons (eVar 2) (aCons (eTup (aCons (eOp oAdd (eC (.int 1)) (eCall F_l_draw (aCons (eVar 0) (aCons (eOp oIx (eLst (aCons (eC (.int 9)) (aCons (eC (.int 899)) aNil))) (eCall F_l_draw (aCons (eVar 0) (aCons (eC (.int 2)) aNil)))) aNil)))) (aCons (eC (.int 1)) aNil))) aNil))))
def c_l_far_3 : SF :=
  (sIf (tTru (eOp oEq (eCall F_l_draw (aCons (eVar 0) (aCons (eC (.int 2)) aNil))) (eC (.int 0))))
    (sRet (eTup (aCons (eTup (aCons (eTup (aCons (eVar 3) (aCons (eVar 2) (aCons (eVar 4) aNil)))) aNil)) (aCons (eVar 1) aNil))))
    sNil)
def c_l_far_4 : SF :=
  (sAsg (.nm 5) (eOp oAdd (eC (.int 1)) (eCall F_l_draw (aCons (eVar 0) (aCons (eOp oSub (eVar 3) (eC (.int 1))) aNil)))))
def c_l_far_5 : SF :=
  (sRet (eTup (aCons (eTup (aCons (eTup (aCons (eVar 5) (aCons (eVar 2) (aCons (eVar 4) aNil)))) (aCons (eTup (aCons (eOp oSub (eVar 3) (eVar 5)) (aCons (eCall F_l_add (aCons (eVar 4) (aCons (eTup (aCons (eC (.int 1)) (aCons (eC (.int 1)) aNil))) aNil))) (aCons (eVar 2) aNil)))) aNil))) (aCons (eVar 1) aNil))))
def b_l_far : SF :=
  (sSeq c_l_far_0
    (sSeq c_l_far_1
    (sSeq c_l_far_2
    (sSeq c_l_far_3
    (sSeq c_l_far_4
    c_l_far_5)))))
def F_l_far : FF := runF 6 1 b_l_far
def c_l_wide_0 : SF :=
  (sPar 1 2 (aCons (eCall F_l_above (aCons (eVar 0) aNil)) (aCons (eLstS aNil) aNil)))
def c_l_wide_1_0 : SF :=
  (sAsg (.nm 4) (eOp oAdd (eC (.int 1)) (eCall F_l_draw (aCons (eVar 0) (aCons (eOp oIx (eLst (aCons (eC (.int 5)) (aCons (eC (.int 8000)) aNil))) (eCall F_l_draw (aCons (eVar 0) (aCons (eC (.int 2)) aNil)))) aNil)))))
def c_l_wide_1_1 : SF :=
  (sExpr (eApp (eVar 2) (eTup (aCons (eVar 4) (aCons (eCall F_l_add (aCons (eVar 1) (aCons (eTup (aCons (eVar 3) (aCons (eC (.int 1)) aNil))) aNil))) (aCons (eCall F_l_add (aCons (eVar 1) (aCons (eTup (aCons (eOp oAdd (eVar 3) (eC (.int 2))) (aCons (eC (.int 1)) aNil))) aNil))) aNil))))))
def c_l_wide_1 : SF :=
  (sFor (iRng (aCons (eOp oAdd (eC (.int 17)) (eCall F_l_draw (aCons (eVar 0) (aCons (eC (.int 8)) aNil)))) aNil)) (.nm 3)
    (sSeq c_l_wide_1_0
    c_l_wide_1_1))
def c_l_wide_2 : SF :=
  (sRet (eTup (aCons (eB cTuple (aCons (eVar 2) aNil)) (aCons (eVar 1) aNil))))
def b_l_wide : SF :=
  (sSeq c_l_wide_0
    (sSeq c_l_wide_1
    c_l_wide_2))
def F_l_wide : FF := runF 5 1 b_l_wide
def c_Clock_moment_at_0 : SF :=
  (sIf (tTru (eOp oNotIn (eVar 1) (eFld "Clock" "known" (eVar 0))))
    (sDPutD (eFld "Clock" "known" (eVar 0)) (eVar 1) (eMeth "Clock" "_found_at" F_Clock_found_at (eVar 0) (aCons (eVar 1) aNil)))
    sNil)
def c_Clock_moment_at_1 : SF :=
  (sRet (eDGet (eFld "Clock" "known" (eVar 0)) (eVar 1)))
def b_Clock_moment_at : SF :=
  (sSeq c_Clock_moment_at_0
    c_Clock_moment_at_1)
def F_Clock_moment_at : FF := runF 2 2 b_Clock_moment_at
def c_Clock_place_at_0 : SF :=
  (sAsg (.nm 2) (eMeth "Clock" "_place_of" F_Clock_place_of (eVar 0) (aCons (eVar 1) aNil)))
def c_Clock_place_at_1 : SF :=
  (sDPutD (eFld "Clock" "known" (eVar 0)) (eVar 2) (eVar 1))
def c_Clock_place_at_2 : SF :=
  (sRet (eVar 2))
def b_Clock_place_at : SF :=
  (sSeq c_Clock_place_at_0
    (sSeq c_Clock_place_at_1
    c_Clock_place_at_2))
def F_Clock_place_at : FF := runF 3 2 b_Clock_place_at
def c_goes_on_0 : SF :=
  (sRet (eAnd (eOp oEq (eOp oIx (eVar 0) (eC (.int 2))) (eOp oIx (eVar 1) (eC (.int 1)))) (eOp oEq (eCall F_rise_of (aCons (eVar 0) aNil)) (eCall F_rise_of (aCons (eVar 1) aNil)))))
def b_goes_on : SF :=
  c_goes_on_0
def F_goes_on : FF := runF 2 2 b_goes_on
def fu_l_tempo_0 : Lc → Sto → Nat := fun (ρ : Lc) _ => 1000
def c_l_tempo_0 : SF :=
  (sAsg (.nm 2) (eCall F_l_above (aCons (eVar 0) aNil)))
def c_l_tempo_1 : SF :=
  (sAsg (.nm 3) (eLstS aNil))
def c_l_tempo_2_0 : SF :=
  (sAsg (.nm 5) (eCall F_l_above (aCons (eVar 0) aNil)))
def c_l_tempo_2_1 : SF :=
  (sIf (bAnd (tTru (eOp oNe (eVar 3) (eLst aNil))) (tTru (eOp oEq (eCall F_l_draw (aCons (eVar 0) (aCons (eC (.int 2)) aNil))) (eC (.int 0)))))
    (sAsg (.nm 5) (eOp oIx (eOp oIx (eVar 3) (eNeg (eC (.int 1)))) (eC (.int 2))))
    sNil)
def c_l_tempo_2_2 : SF :=
  (sAsg (.nm 6) (eOp oIx (eLst (aCons (eVar 5) (aCons (eCall F_l_above (aCons (eVar 0) aNil)) (aCons (eVar 2) aNil)))) (eCall F_l_draw (aCons (eVar 0) (aCons (eC (.int 3)) aNil)))))
def c_l_tempo_2_3 : SF :=
  (sAsg (.nm 7) (eTup (aCons (eOp oAdd (eC (.int 1)) (eCall F_l_draw (aCons (eVar 0) (aCons (eOp oIx (eLst (aCons (eC (.int 12)) (aCons (eC (.int 12)) (aCons (eC (.int 9000)) aNil)))) (eCall F_l_draw (aCons (eVar 0) (aCons (eC (.int 3)) aNil)))) aNil)))) (aCons (eVar 5) (aCons (eVar 6) aNil)))))
def c_l_tempo_2_4 : SF :=
  (sIf (bOr (tTru (eOp oEq (eVar 3) (eLst aNil))) (bNot (tTru (eCall F_l_goes_on (aCons (eOp oIx (eVar 3) (eNeg (eC (.int 1)))) (aCons (eVar 7) aNil))))))
    (sExpr (eApp (eVar 3) (eVar 7)))
    sNil)
def c_l_tempo_2 : SF :=
  (sFor (iRng (aCons (eCall F_l_draw (aCons (eVar 0) (aCons (eOp oAdd (eVar 1) (eC (.int 1))) aNil))) aNil)) (.nm 4)
    (sSeq c_l_tempo_2_0
    (sSeq c_l_tempo_2_1
    (sSeq c_l_tempo_2_2
    (sSeq c_l_tempo_2_3
    c_l_tempo_2_4)))))
def c_l_tempo_3_0 : SF :=
  (sExpr (ePop (eVar 3)))
def c_l_tempo_3 : SF :=
  (sWh fu_l_tempo_0 (bAnd (tTru (eOp oNe (eVar 3) (eLst aNil))) (tTru (eOp oEq (eSl (eOp oIx (eVar 3) (eNeg (eC (.int 1)))) (pAt (eC (.int 1))) pNo) (eTup (aCons (eVar 2) (aCons (eVar 2) aNil))))))
    c_l_tempo_3_0)
def c_l_tempo_4 : SF :=
  (sRet (eTup (aCons (eB cTuple (aCons (eVar 3) aNil)) (aCons (eVar 2) aNil))))
def b_l_tempo : SF :=
  (sSeq c_l_tempo_0
    (sSeq c_l_tempo_1
    (sSeq c_l_tempo_2
    (sSeq c_l_tempo_3
    c_l_tempo_4))))
def F_l_tempo : FF := runF 8 2 b_l_tempo
def c_is_plain_0_0 : SF :=
  (sIf (tTru (eCall F_goes_on (aCons (eOp oIx (eVar 0) (eOp oSub (eVar 2) (eC (.int 1)))) (aCons (eOp oIx (eVar 0) (eVar 2)) aNil))))
    (sRet (eC (.bl false)))
    sNil)
def c_is_plain_0 : SF :=
  (sFor (iRng (aCons (eC (.int 1)) (aCons (eB cLen (aCons (eVar 0) aNil)) aNil))) (.nm 2)
    c_is_plain_0_0)
def c_is_plain_1 : SF :=
  (sRet (eOr (eNot (eVar 0)) (eOp oNe (eSl (eOp oIx (eVar 0) (eNeg (eC (.int 1)))) (pAt (eC (.int 1))) pNo) (eTup (aCons (eVar 1) (aCons (eVar 1) aNil))))))
def b_is_plain : SF :=
  (sSeq c_is_plain_0
    c_is_plain_1)
def F_is_plain : FF := runF 3 2 b_is_plain
def c_is_tempo_0 : SF :=
  (sIf (bNot (tTru (eCall F_is_tuple_of (aCons (eVar 0) (aCons (eC (.int 2)) aNil)))))
    (sRet (eC (.bl false)))
    sNil)
def c_is_tempo_1 : SF :=
  (sAsg (.tp [(.nm 1), (.nm 2)]) (eVar 0))
def c_is_tempo_2 : SF :=
  (sIf (bOr (bNot (tTru (eIs (eVar 1) "tuple"))) (tTru (eOp oGt (eB cLen (aCons (eVar 1) aNil)) (eC (.int 24)))))
    (sRet (eC (.bl false)))
    sNil)
def c_is_tempo_3 : SF :=
  (sIf (bOr (bNot (tTru (eCall F_is_above_nought (aCons (eVar 2) aNil)))) (bNot (tTru (eB cAll (aCons (eLc (iSeq (eVar 1)) (.nm 3) cYes (eCall F_is_stretch (aCons (eVar 3) aNil)) [3]) aNil)))))
    (sRet (eC (.bl false)))
    sNil)
def c_is_tempo_4 : SF :=
  (sRet (eAnd (eOp oLe (eB cSum (aCons (eLc (iSeq (eVar 1)) (.nm 3) cYes (eOp oIx (eVar 3) (eC (.int 0))) [3]) aNil)) (eC (.int 200000))) (eCall F_is_plain (aCons (eVar 1) (aCons (eVar 2) aNil)))))
def b_is_tempo : SF :=
  (sSeq c_is_tempo_0
    (sSeq c_is_tempo_1
    (sSeq c_is_tempo_2
    (sSeq c_is_tempo_3
    c_is_tempo_4))))
def F_is_tempo : FF := runF 4 1 b_is_tempo
def c_refuse_no_tempo_0 : SF :=
  (sIf (bNot (tTru (eCall F_is_tempo (aCons (eVar 0) aNil))))
    (sRaise "NoTempo")
    sNil)
def b_refuse_no_tempo : SF :=
  c_refuse_no_tempo_0
def F_refuse_no_tempo : FF := runF 1 1 b_refuse_no_tempo
def c_length_of_0 : SF :=
  (sExpr (eCall F_refuse_no_tempo (aCons (eVar 0) aNil)))
def c_length_of_1 : SF :=
  (sIf (bOr (bNot (tTru (eCall F_is_whole (aCons (eVar 1) aNil)))) (tTru (eOp oLt (eVar 1) (eC (.int 0)))))
    (sRaise "NoStep")
    sNil)
def c_length_of_2 : SF :=
  (sRet (eCall F_length_at (aCons (eVar 0) (aCons (eVar 1) aNil))))
def b_length_of : SF :=
  (sSeq c_length_of_0
    (sSeq c_length_of_1
    c_length_of_2))
def F_length_of : FF := runF 2 2 b_length_of
def c_moment_of_0 : SF :=
  (sExpr (eCall F_refuse_no_tempo (aCons (eVar 0) aNil)))
def c_moment_of_1 : SF :=
  (sExpr (eCall F_refuse_no_place (aCons (eVar 1) aNil)))
def c_moment_of_2 : SF :=
  (sRet (eMeth "Clock" "moment_at" F_Clock_moment_at (eMakeS "Clock" F_Clock_init (aCons (eVar 0) aNil)) (aCons (eVar 1) aNil)))
def b_moment_of : SF :=
  (sSeq c_moment_of_0
    (sSeq c_moment_of_1
    c_moment_of_2))
def F_moment_of : FF := runF 2 2 b_moment_of
def c_place_of_0 : SF :=
  (sExpr (eCall F_refuse_no_tempo (aCons (eVar 0) aNil)))
def c_place_of_1 : SF :=
  (sExpr (eCall F_refuse_no_moment (aCons (eVar 1) aNil)))
def c_place_of_2 : SF :=
  (sRet (eMeth "Clock" "place_at" F_Clock_place_at (eMakeS "Clock" F_Clock_init (aCons (eVar 0) aNil)) (aCons (eVar 1) aNil)))
def b_place_of : SF :=
  (sSeq c_place_of_0
    (sSeq c_place_of_1
    c_place_of_2))
def F_place_of : FF := runF 2 2 b_place_of
def c_l_div_0 : SF :=
  (sRet (eCall F_l_low (aCons (eOp oMul (eOp oIx (eVar 0) (eC (.int 0))) (eOp oIx (eVar 1) (eC (.int 1)))) (aCons (eOp oMul (eOp oIx (eVar 0) (eC (.int 1))) (eOp oIx (eVar 1) (eC (.int 0)))) aNil))))
def b_l_div : SF :=
  c_l_div_0
def F_l_div : FF := runF 2 2 b_l_div
def c_l_line_0 : SF :=
  (sRet (eCall F_l_add (aCons (eOp oIx (eVar 0) (eC (.int 1))) (aCons (eCall F_l_mul (aCons (eCall F_l_sub (aCons (eOp oIx (eVar 0) (eC (.int 2))) (aCons (eOp oIx (eVar 0) (eC (.int 1))) aNil))) (aCons (eCall F_l_low (aCons (eVar 1) (aCons (eOp oMul (eC (.int 2)) (eOp oIx (eVar 0) (eC (.int 0)))) aNil))) aNil))) aNil))))
def b_l_line : SF :=
  c_l_line_0
def F_l_line : FF := runF 2 2 b_l_line
def c_l_moment_0 : SF :=
  (sPar 2 3 (aCons (eOp oDiv (eOp oIx (eVar 1) (eC (.int 0))) (eOp oIx (eVar 1) (eC (.int 1)))) (aCons (eTup (aCons (eC (.int 0)) (aCons (eC (.int 1)) aNil))) aNil)))
def c_l_moment_1 : SF :=
  (sAsg (.nm 4) (eCall F_l_low (aCons (eOp oMod (eOp oIx (eVar 1) (eC (.int 0))) (eOp oIx (eVar 1) (eC (.int 1)))) (aCons (eOp oIx (eVar 1) (eC (.int 1))) aNil))))
def c_l_moment_2_0 : SF :=
  (sAsg (.nm 6) (eB cMin (aCons (eVar 2) (aCons (eOp oIx (eVar 5) (eC (.int 0))) aNil))))
def c_l_moment_2_1 : SF :=
  (sAsg (.nm 3) (eCall F_l_add (aCons (eVar 3) (aCons (eCall F_l_mul (aCons (eTup (aCons (eVar 6) (aCons (eC (.int 1)) aNil))) (aCons (eCall F_l_line (aCons (eVar 5) (aCons (eVar 6) aNil))) aNil))) aNil))))
def c_l_moment_2_2 : SF :=
  (sIf (tTru (eOp oLt (eVar 2) (eOp oIx (eVar 5) (eC (.int 0)))))
    (sRet (eCall F_l_add (aCons (eVar 3) (aCons (eCall F_l_mul (aCons (eVar 4) (aCons (eCall F_l_line (aCons (eVar 5) (aCons (eOp oAdd (eOp oMul (eC (.int 2)) (eVar 2)) (eC (.int 1))) aNil))) aNil))) aNil))))
    sNil)
def c_l_moment_2_3 : SF :=
  (sAsg (.nm 2) (eOp oSub (eVar 2) (eOp oIx (eVar 5) (eC (.int 0)))))
def c_l_moment_2 : SF :=
  (sFor (iSeq (eOp oIx (eVar 0) (eC (.int 0)))) (.nm 5)
    (sSeq c_l_moment_2_0
    (sSeq c_l_moment_2_1
    (sSeq c_l_moment_2_2
    c_l_moment_2_3))))
def c_l_moment_3 : SF :=
  (sRet (eCall F_l_add (aCons (eVar 3) (aCons (eCall F_l_mul (aCons (eCall F_l_add (aCons (eTup (aCons (eVar 2) (aCons (eC (.int 1)) aNil))) (aCons (eVar 4) aNil))) (aCons (eOp oIx (eVar 0) (eC (.int 1))) aNil))) aNil))))
def b_l_moment : SF :=
  (sSeq c_l_moment_0
    (sSeq c_l_moment_1
    (sSeq c_l_moment_2
    c_l_moment_3)))
def F_l_moment : FF := runF 7 2 b_l_moment
def fu_l_place_0 : Lc → Sto → Nat := fun (ρ : Lc) _ => 100000
def fu_l_place_1 : Lc → Sto → Nat := fun (ρ : Lc) _ => 100000
def c_l_place_0 : SF :=
  (sAsg (.tp [(.nm 2), (.nm 3)]) (eTup (aCons (eC (.int 0)) (aCons (eC (.int 1)) aNil))))
def c_l_place_1_0 : SF :=
  (sPar 2 3 (aCons (eVar 3) (aCons (eOp oMul (eC (.int 2)) (eVar 3)) aNil)))
def c_l_place_1 : SF :=
  (sWh fu_l_place_0 (bNot (tTru (eCall F_l_less (aCons (eVar 1) (aCons (eCall F_l_moment (aCons (eVar 0) (aCons (eTup (aCons (eVar 3) (aCons (eC (.int 1)) aNil))) aNil))) aNil)))))
    c_l_place_1_0)
def c_l_place_2_0 : SF :=
  (sAsg (.nm 4) (eOp oDiv (eOp oAdd (eVar 2) (eVar 3)) (eC (.int 2))))
def c_l_place_2_1 : SF :=
  (sIf (tTru (eCall F_l_less (aCons (eVar 1) (aCons (eCall F_l_moment (aCons (eVar 0) (aCons (eTup (aCons (eVar 4) (aCons (eC (.int 1)) aNil))) aNil))) aNil))))
    (sAsg (.nm 3) (eVar 4))
    (sAsg (.nm 2) (eVar 4)))
def c_l_place_2 : SF :=
  (sWh fu_l_place_1 (tTru (eOp oGt (eOp oSub (eVar 3) (eVar 2)) (eC (.int 1))))
    (sSeq c_l_place_2_0
    c_l_place_2_1))
def c_l_place_3 : SF :=
  (sPar 5 6 (aCons (eCall F_l_moment (aCons (eVar 0) (aCons (eTup (aCons (eVar 2) (aCons (eC (.int 1)) aNil))) aNil))) (aCons (eCall F_l_moment (aCons (eVar 0) (aCons (eTup (aCons (eOp oAdd (eVar 2) (eC (.int 1))) (aCons (eC (.int 1)) aNil))) aNil))) aNil)))
def c_l_place_4 : SF :=
  (sRet (eCall F_l_add (aCons (eTup (aCons (eVar 2) (aCons (eC (.int 1)) aNil))) (aCons (eCall F_l_div (aCons (eCall F_l_sub (aCons (eVar 1) (aCons (eVar 5) aNil))) (aCons (eCall F_l_sub (aCons (eVar 6) (aCons (eVar 5) aNil))) aNil))) aNil))))
def b_l_place : SF :=
  (sSeq c_l_place_0
    (sSeq c_l_place_1
    (sSeq c_l_place_2
    (sSeq c_l_place_3
    c_l_place_4))))
def F_l_place : FF := runF 7 2 b_l_place
def c_l_near_0 : SF :=
  (sAsg (.nm 2) (eCall F_l_add (aCons (eOp oIx (eVar 1) (eC (.int 1))) (aCons (eTup (aCons (eC (.int 1)) (aCons (eC (.int 2)) aNil))) aNil))))
def c_l_near_1 : SF :=
  (sIf (bOr (tTru (eOp oEq (eCall F_l_draw (aCons (eVar 0) (aCons (eC (.int 2)) aNil))) (eC (.int 0)))) (bAnd (tTru (eOp oNe (eOp oIx (eVar 1) (eC (.int 0))) (eTup aNil))) (tTru (eOp oEq (eSl (eOp oIx (eOp oIx (eVar 1) (eC (.int 0))) (eNeg (eC (.int 1)))) (pAt (eC (.int 1))) pNo) (eTup (aCons (eVar 2) (aCons (eVar 2) aNil)))))))
    (sRet (eCall F_l_tempo (aCons (eVar 0) (aCons (eC (.int 3)) aNil))))
    sNil)
def c_l_near_2 : SF :=
  (sRet (eTup (aCons (eOp oIx (eVar 1) (eC (.int 0))) (aCons (eVar 2) aNil))))
def b_l_near : SF :=
  (sSeq c_l_near_0
    (sSeq c_l_near_1
    c_l_near_2))
def F_l_near : FF := runF 3 2 b_l_near
def c_l_far_right_0 : SF :=
  (sAsg (.nm 1) (eIf (tTru (eOp oEq (eCall F_l_draw (aCons (eVar 0) (aCons (eC (.int 2)) aNil))) (eC (.int 0)))) (eCall F_l_far (aCons (eVar 0) aNil)) (eCall F_l_wide (aCons (eVar 0) aNil))))
def c_l_far_right_1 : SF :=
  (sAsg (.nm 2) (eB cSum (aCons (eLc (iSeq (eOp oIx (eVar 1) (eC (.int 0)))) (.nm 3) cYes (eOp oIx (eVar 3) (eC (.int 0))) [3]) aNil)))
def c_l_far_right_2_0_0 : SF :=
  (sAsg (.nm 6) (eCall F_moment_of (aCons (eVar 1) (aCons (eVar 5) aNil))))
def c_l_far_right_2_0_1 : SF :=
  (sIf (bOr (bNot (tTru (eCall F_l_same (aCons (eVar 6) (aCons (eCall F_l_moment (aCons (eVar 1) (aCons (eVar 5) aNil))) aNil))))) (bNot (tTru (eCall F_l_same (aCons (eCall F_place_of (aCons (eVar 1) (aCons (eVar 6) aNil))) (aCons (eVar 5) aNil))))))
    (sRet (eC (.bl false)))
    sNil)
def c_l_far_right_2_0 : SF :=
  (sFor (iSeq (eTup (aCons (eTup (aCons (eVar 4) (aCons (eC (.int 1)) aNil))) (aCons (eTup (aCons (eOp oAdd (eOp oMul (eC (.int 2)) (eVar 4)) (eC (.int 1))) (aCons (eC (.int 2)) aNil))) aNil)))) (.nm 5)
    (sSeq c_l_far_right_2_0_0
    c_l_far_right_2_0_1))
def c_l_far_right_2 : SF :=
  (sFor (iSeq (eTup (aCons (eCall F_l_draw (aCons (eVar 0) (aCons (eVar 2) aNil))) (aCons (eOp oSub (eOp oSub (eVar 2) (eC (.int 1))) (eCall F_l_draw (aCons (eVar 0) (aCons (eC (.int 9)) aNil)))) (aCons (eCall F_l_draw (aCons (eVar 0) (aCons (eC (.int 9)) aNil))) (aCons (eCall F_l_draw (aCons (eVar 0) (aCons (eVar 2) aNil))) aNil)))))) (.nm 4)
    c_l_far_right_2_0)
def c_l_far_right_3 : SF :=
  (sRet (eC (.bl true)))
def b_l_far_right : SF :=
  (sSeq c_l_far_right_0
    (sSeq c_l_far_right_1
    (sSeq c_l_far_right_2
    c_l_far_right_3)))
def F_l_far_right : FF := runF 7 1 b_l_far_right
def c_l_fine_right_0 : SF :=
  (sAsg (.nm 1) (eLc (iRng (aCons (eC (.int 5)) aNil)) (.nm 2) cYes (eCall F_l_low (aCons (eOp oAdd (eC (.int 1)) (eCall F_l_draw (aCons (eVar 0) (aCons (eOp oSub (eOp oPow (eC (.int 10)) (eC (.int 12))) (eC (.int 1))) aNil)))) (aCons (eOp oSub (eOp oSub (eOp oPow (eC (.int 10)) (eC (.int 12))) (eC (.int 1))) (eCall F_l_draw (aCons (eVar 0) (aCons (eC (.int 99)) aNil)))) aNil))) [2]))
def c_l_fine_right_1 : SF :=
  (sAsg (.nm 3) (eLc (iRng (aCons (eC (.int 2)) aNil)) (.nm 2) cYes (eCall F_l_low (aCons (eOp oAdd (eC (.int 1)) (eCall F_l_draw (aCons (eVar 0) (aCons (eOp oSub (eOp oPow (eC (.int 10)) (eC (.int 12))) (eC (.int 1))) aNil)))) (aCons (eOp oAdd (eC (.int 1)) (eCall F_l_draw (aCons (eVar 0) (aCons (eC (.int 999)) aNil)))) aNil))) [2]))
def c_l_fine_right_2 : SF :=
  (sAsg (.nm 4) (eTup (aCons (eTup (aCons (eTup (aCons (eOp oAdd (eC (.int 1)) (eCall F_l_draw (aCons (eVar 0) (aCons (eC (.int 9000)) aNil)))) (aCons (eOp oIx (eVar 1) (eC (.int 0))) (aCons (eOp oIx (eVar 1) (eC (.int 1))) aNil)))) aNil)) (aCons (eOp oIx (eVar 1) (eC (.int 2))) aNil))))
def c_l_fine_right_3 : SF :=
  (sIf (tTru (eOp oEq (eSl (eVar 1) pNo (pAt (eC (.int 2)))) (eLst (aCons (eOp oIx (eVar 1) (eC (.int 2))) (aCons (eOp oIx (eVar 1) (eC (.int 2))) aNil)))))
    (sAsg (.nm 4) (eTup (aCons (eTup aNil) (aCons (eOp oIx (eVar 1) (eC (.int 2))) aNil))))
    sNil)
def c_l_fine_right_4_0 : SF :=
  (sAsg (.nm 6) (eCall F_moment_of (aCons (eVar 4) (aCons (eVar 5) aNil))))
def c_l_fine_right_4_1 : SF :=
  (sIf (bOr (bNot (tTru (eCall F_l_same (aCons (eVar 6) (aCons (eCall F_l_moment (aCons (eVar 4) (aCons (eVar 5) aNil))) aNil))))) (bNot (tTru (eCall F_l_same (aCons (eCall F_place_of (aCons (eVar 4) (aCons (eVar 6) aNil))) (aCons (eVar 5) aNil))))))
    (sRet (eC (.bl false)))
    sNil)
def c_l_fine_right_4 : SF :=
  (sFor (iSeq (eTup (aCons (eOp oIx (eVar 1) (eC (.int 3))) (aCons (eOp oIx (eVar 3) (eC (.int 0))) aNil)))) (.nm 5)
    (sSeq c_l_fine_right_4_0
    c_l_fine_right_4_1))
def c_l_fine_right_5_0 : SF :=
  (sIf (bNot (tTru (eCall F_l_same (aCons (eCall F_place_of (aCons (eVar 4) (aCons (eVar 6) aNil))) (aCons (eCall F_l_place (aCons (eVar 4) (aCons (eVar 6) aNil))) aNil)))))
    (sRet (eC (.bl false)))
    sNil)
def c_l_fine_right_5 : SF :=
  (sFor (iSeq (eTup (aCons (eOp oIx (eVar 1) (eC (.int 4))) (aCons (eOp oIx (eVar 3) (eC (.int 1))) aNil)))) (.nm 6)
    c_l_fine_right_5_0)
def c_l_fine_right_6 : SF :=
  (sRet (eC (.bl true)))
def b_l_fine_right : SF :=
  (sSeq c_l_fine_right_0
    (sSeq c_l_fine_right_1
    (sSeq c_l_fine_right_2
    (sSeq c_l_fine_right_3
    (sSeq c_l_fine_right_4
    (sSeq c_l_fine_right_5
    c_l_fine_right_6))))))
def F_l_fine_right : FF := runF 7 1 b_l_fine_right
def c_l_other_rest_0 : SF :=
  (sAsg (.nm 1) (eCall F_l_add (aCons (eOp oIx (eVar 0) (eC (.int 1))) (aCons (eTup (aCons (eC (.int 1)) (aCons (eC (.int 2)) aNil))) aNil))))
def c_l_other_rest_1 : SF :=
  (sIf (bAnd (tTru (eOp oNe (eOp oIx (eVar 0) (eC (.int 0))) (eTup aNil))) (tTru (eOp oEq (eSl (eOp oIx (eOp oIx (eVar 0) (eC (.int 0))) (eNeg (eC (.int 1)))) (pAt (eC (.int 1))) pNo) (eTup (aCons (eVar 1) (aCons (eVar 1) aNil))))))
    (sAsg (.nm 1) (eCall F_l_add (aCons (eVar 1) (aCons (eTup (aCons (eC (.int 1)) (aCons (eC (.int 2)) aNil))) aNil))))
    sNil)
def c_l_other_rest_2 : SF :=
  (sRet (eTup (aCons (eOp oIx (eVar 0) (eC (.int 0))) (aCons (eVar 1) aNil))))
def b_l_other_rest : SF :=
  (sSeq c_l_other_rest_0
    (sSeq c_l_other_rest_1
    c_l_other_rest_2))
def F_l_other_rest : FF := runF 2 1 b_l_other_rest
def c_l_length_0_0 : SF :=
  (sIf (tTru (eOp oLt (eVar 1) (eOp oIx (eVar 2) (eC (.int 0)))))
    (sRet (eCall F_l_line (aCons (eVar 2) (aCons (eOp oAdd (eOp oMul (eC (.int 2)) (eVar 1)) (eC (.int 1))) aNil))))
    sNil)
def c_l_length_0_1 : SF :=
  (sAsg (.nm 1) (eOp oSub (eVar 1) (eOp oIx (eVar 2) (eC (.int 0)))))
def c_l_length_0 : SF :=
  (sFor (iSeq (eOp oIx (eVar 0) (eC (.int 0)))) (.nm 2)
    (sSeq c_l_length_0_0
    c_l_length_0_1))
def c_l_length_1 : SF :=
  (sRet (eOp oIx (eVar 0) (eC (.int 1))))
def b_l_length : SF :=
  (sSeq c_l_length_0
    c_l_length_1)
def F_l_length : FF := runF 3 2 b_l_length
def c_l_twice_0 : SF :=
  (sAsg (.tp [(.nm 2), (.nm 3)]) (eVar 1))
def c_l_twice_1 : SF :=
  (sIf (bOr (tTru (eOp oLt (eB cLen (aCons (eVar 2) aNil)) (eC (.int 2)))) (bOr (tTru (eOp oEq (eSl (eOp oIx (eVar 2) (eC (.int 0))) (pAt (eC (.int 1))) pNo) (eTup (aCons (eVar 3) (aCons (eVar 3) aNil))))) (bOr (tTru (eCall F_l_goes_on (aCons (eOp oIx (eVar 2) (eNeg (eC (.int 1)))) (aCons (eOp oIx (eVar 2) (eC (.int 0))) aNil)))) (tTru (eOp oEq (eCall F_l_draw (aCons (eVar 0) (aCons (eC (.int 2)) aNil))) (eC (.int 0)))))))
    (sRet (eVar 1))
    sNil)
def c_l_twice_2 : SF :=
  (sRet (eTup (aCons (eOp oAdd (eVar 2) (eSl (eVar 2) pNo (pAt (eC (.int 1))))) (aCons (eVar 3) aNil))))
def b_l_twice : SF :=
  (sSeq c_l_twice_0
    (sSeq c_l_twice_1
    c_l_twice_2))
def F_l_twice : FF := runF 4 2 b_l_twice
def fu_l_short_0 : Lc → Sto → Nat := fun _ _ => 100000
def c_l_short_0 : SF :=
  (sPar 1 2 (aCons (eCall F_l_above (aCons (eVar 0) aNil)) (aCons (eLstS aNil) aNil)))
def c_l_short_1_0 : SF :=
  (sAsg (.nm 6) (eTup (aCons (eOp oAdd (eC (.int 1)) (eOp oMod (eVar 3) (eC (.int 6)))) (aCons (eVar 4) (aCons (eVar 5) aNil)))))
def c_l_short_1_1 : SF :=
  (sIf (bOr (tTru (eOp oEq (eVar 2) (eLst aNil))) (bNot (tTru (eCall F_l_goes_on (aCons (eOp oIx (eVar 2) (eNeg (eC (.int 1)))) (aCons (eVar 6) aNil))))))
    (sExpr (eApp (eVar 2) (eVar 6)))
    sNil)
def c_l_short_1 : SF :=
  (sFor (iSeq (eOp oIx (eCall F_l_tempo (aCons (eVar 0) (aCons (eC (.int 4)) aNil))) (eC (.int 0)))) (.tp [(.nm 3), (.nm 4), (.nm 5)])
    (sSeq c_l_short_1_0
    c_l_short_1_1))
def c_l_short_2_0 : SF :=
  (sExpr (ePop (eVar 2)))
def c_l_short_2 : SF :=
  (sWh fu_l_short_0 (bAnd (tTru (eOp oNe (eVar 2) (eLst aNil))) (tTru (eOp oEq (eSl (eOp oIx (eVar 2) (eNeg (eC (.int 1)))) (pAt (eC (.int 1))) pNo) (eTup (aCons (eVar 1) (aCons (eVar 1) aNil))))))
    c_l_short_2_0)
def c_l_short_3 : SF :=
  (sRet (eTup (aCons (eB cTuple (aCons (eVar 2) aNil)) (aCons (eVar 1) aNil))))
def b_l_short : SF :=
  (sSeq c_l_short_0
    (sSeq c_l_short_1
    (sSeq c_l_short_2
    c_l_short_3)))
def F_l_short : FF := runF 7 1 b_l_short
def c_l_added_0 : SF :=
  (sPar 2 3 (aCons (eTup (aCons (eC (.int 0)) (aCons (eC (.int 1)) aNil))) (aCons (eOp oDiv (eOp oIx (eVar 1) (eC (.int 0))) (eOp oIx (eVar 1) (eC (.int 1)))) aNil)))
def c_l_added_1_0 : SF :=
  (sAsg (.nm 2) (eCall F_l_add (aCons (eVar 2) (aCons (eCall F_l_length (aCons (eVar 0) (aCons (eVar 4) aNil))) aNil))))
def c_l_added_1 : SF :=
  (sFor (iRng (aCons (eVar 3) aNil)) (.nm 4)
    c_l_added_1_0)
def c_l_added_2 : SF :=
  (sRet (eCall F_l_add (aCons (eVar 2) (aCons (eCall F_l_mul (aCons (eCall F_l_low (aCons (eOp oMod (eOp oIx (eVar 1) (eC (.int 0))) (eOp oIx (eVar 1) (eC (.int 1)))) (aCons (eOp oIx (eVar 1) (eC (.int 1))) aNil))) (aCons (eCall F_l_length (aCons (eVar 0) (aCons (eVar 3) aNil))) aNil))) aNil))))
def b_l_added : SF :=
  (sSeq c_l_added_0
    (sSeq c_l_added_1
    c_l_added_2))
def F_l_added : FF := runF 5 2 b_l_added
def c_l_bent_0 (F_l_bent : FF) : SF :=
  (sIf (bAnd (tTru (eIs (eVar 1) "tuple")) (bAnd (tTru (eOp oNe (eVar 1) (eTup aNil))) (tTru (eOp oGt (eCall F_l_draw (aCons (eVar 0) (aCons (eC (.int 6)) aNil))) (eC (.int 0))))))
    (sSeq (sAsg (.nm 2) (eCall F_l_draw (aCons (eVar 0) (aCons (eB cLen (aCons (eVar 1) aNil)) aNil))))
    (sRet (eOp oAdd (eOp oAdd (eSl (eVar 1) pNo (pAt (eVar 2))) (eTup (aCons (eCall F_l_bent (aCons (eVar 0) (aCons (eOp oIx (eVar 1) (eVar 2)) aNil))) aNil))) (eSl (eVar 1) (pAt (eOp oAdd (eVar 2) (eC (.int 1)))) pNo))))
    sNil)
def c_l_bent_1 (F_l_bent : FF) : SF :=
  (sAsg (.nm 3) (eLst (aCons (eC .non) (aCons (eC (.bl true)) (aCons (eC (.bl false)) (aCons (eNeg (eC (.int 1))) (aCons (eC (.int 0)) (aCons (eC (.int 1)) (aCons (eC (.str "")) (aCons (eC (.str "a")) (aCons (eTup aNil) (aCons (eLst aNil) (aCons (eC (.dct [])) (aCons (eTup (aCons (eC (.int 1)) (aCons (eC (.int 1)) aNil))) (aCons (eTup (aCons (eC (.int 2)) (aCons (eC (.int 4)) aNil))) (aCons (eTup (aCons (eC (.int 0)) (aCons (eC (.int 1)) aNil))) (aCons (eLst (aCons (eC (.int 1)) (aCons (eC (.int 1)) aNil))) (aCons (eTup (aCons (eTup (aCons (eC (.int 1)) (aCons (eC (.int 1)) aNil))) aNil)) aNil))))))))))))))))))
def c_l_bent_2 (F_l_bent : FF) : SF :=
  (sAsg (.nm 4) (eCall F_l_draw (aCons (eVar 0) (aCons (eC (.int 3)) aNil))))
def c_l_bent_3 (F_l_bent : FF) : SF :=
  (sIf (bAnd (tTru (eOp oGt (eVar 4) (eC (.int 0)))) (tTru (eIs (eVar 1) "tuple")))
    (sAsg (.nm 3) (eLst (aCons (eB cList (aCons (eVar 1) aNil)) (aCons (eRev (eVar 1)) (aCons (eOp oAdd (eVar 1) (eSl (eVar 1) pNo (pAt (eC (.int 1))))) (aCons (eSl (eVar 1) (pAt (eC (.int 1))) pNo) (aCons (eSl (eVar 1) pNo (pAt (eNeg (eC (.int 1))))) (aCons (eTup (aCons (eVar 1) aNil)) (aCons (eOp oAdd (eVar 1) (eVar 1)) aNil)))))))))
    (sIf (bAnd (tTru (eOp oGt (eVar 4) (eC (.int 0)))) (tTru (eIs (eVar 1) "int")))
    (sAsg (.nm 3) (eLst (aCons (eOp oAdd (eVar 1) (eC (.int 1))) (aCons (eOp oSub (eVar 1) (eC (.int 1))) (aCons (eOp oSub (eC (.int 0)) (eVar 1)) (aCons (eOp oMul (eVar 1) (eC (.int 2))) (aCons (eOp oAdd (eVar 1) (eC (.int 200000))) (aCons (eB cStr (aCons (eVar 1) aNil)) (aCons (eOp oGt (eVar 1) (eC (.int 0))) aNil)))))))))
    sNil))
def c_l_bent_4 (F_l_bent : FF) : SF :=
  (sRet (eOp oIx (eVar 3) (eCall F_l_draw (aCons (eVar 0) (aCons (eB cLen (aCons (eVar 3) aNil)) aNil)))))
def b_l_bent (F_l_bent : FF) : SF :=
  (sSeq (c_l_bent_0 F_l_bent)
    (sSeq (c_l_bent_1 F_l_bent)
    (sSeq (c_l_bent_2 F_l_bent)
    (sSeq (c_l_bent_3 F_l_bent)
    (c_l_bent_4 F_l_bent)))))
def R_l_bent : Nat → FF
  | 0 => fun _ _ => .no
  | d + 1 => runF 5 2 (b_l_bent (R_l_bent d))
abbrev F_l_bent : FF := R_l_bent 12
def c_l_bad_tempos_0 : SF :=
  (sAsg (.tp [(.nm 2), (.nm 3)]) (eVar 1))
def c_l_bad_tempos_1 : SF :=
  (sAsg (.nm 4) (eB cTuple (aCons (eLc (iRng (aCons (eC (.int 25)) aNil)) (.nm 5) cYes (eTup (aCons (eOp oAdd (eC (.int 1)) (eVar 5)) (aCons (eTup (aCons (eOp oAdd (eC (.int 1)) (eOp oMod (eVar 5) (eC (.int 2)))) (aCons (eC (.int 3)) aNil))) (aCons (eTup (aCons (eOp oAdd (eC (.int 1)) (eOp oMod (eVar 5) (eC (.int 2)))) (aCons (eC (.int 3)) aNil))) aNil)))) [5]) aNil)))
def c_l_bad_tempos_2 : SF :=
  (sAsg (.nm 6) (eLst (aCons (eTup (aCons (eVar 2) (aCons (eTup (aCons (eC (.int 0)) (aCons (eC (.int 1)) aNil))) aNil))) (aCons (eTup (aCons (eOp oAdd (eVar 2) (eTup (aCons (eTup (aCons (eC (.int 0)) (aCons (eTup (aCons (eC (.int 1)) (aCons (eC (.int 1)) aNil))) (aCons (eTup (aCons (eC (.int 2)) (aCons (eC (.int 1)) aNil))) aNil)))) aNil))) (aCons (eVar 3) aNil))) (aCons (eTup (aCons (eVar 2) aNil)) (aCons (eB cList (aCons (eVar 1) aNil)) (aCons (eC .non) (aCons (eVar 2) (aCons (eTup (aCons (eVar 4) (aCons (eTup (aCons (eC (.int 3)) (aCons (eC (.int 1)) aNil))) aNil))) aNil)))))))))
def c_l_bad_tempos_3 : SF :=
  (sAsg (.nm 6) (eOp oAdd (eVar 6) (eLst (aCons (eTup (aCons (eTup (aCons (eTup (aCons (eC (.int 200001)) (aCons (eTup (aCons (eC (.int 1)) (aCons (eC (.int 1)) aNil))) (aCons (eTup (aCons (eC (.int 2)) (aCons (eC (.int 1)) aNil))) aNil)))) aNil)) (aCons (eVar 3) aNil))) (aCons (eTup (aCons (eOp oAdd (eVar 2) (eTup (aCons (eTup (aCons (eC (.int 7)) (aCons (eVar 3) (aCons (eVar 3) aNil)))) aNil))) (aCons (eVar 3) aNil))) (aCons (eTup (aCons (eVar 2) (aCons (eVar 3) (aCons (eVar 3) aNil)))) aNil))))))
def c_l_bad_tempos_4 : SF :=
  (sAsg (.nm 6) (eOp oAdd (eVar 6) (eLst (aCons (eTup (aCons (eTup (aCons (eTup (aCons (eC (.int 2)) (aCons (eTup (aCons (eC (.int 1)) (aCons (eC (.int 1)) aNil))) (aCons (eTup (aCons (eC (.int 2)) (aCons (eC (.int 1)) aNil))) aNil)))) (aCons (eTup (aCons (eC (.int 2)) (aCons (eTup (aCons (eC (.int 2)) (aCons (eC (.int 1)) aNil))) (aCons (eTup (aCons (eC (.int 3)) (aCons (eC (.int 1)) aNil))) aNil)))) aNil))) (aCons (eVar 3) aNil))) (aCons (eTup (aCons (eTup (aCons (eTup (aCons (eC (.int 1)) (aCons (eTup (aCons (eC (.int 2)) (aCons (eC (.int 4)) aNil))) (aCons (eTup (aCons (eC (.int 1)) (aCons (eC (.int 1)) aNil))) aNil)))) aNil)) (aCons (eVar 3) aNil))) aNil)))))
def c_l_bad_tempos_5 : SF :=
  (sAsg (.nm 6) (eOp oAdd (eVar 6) (eLst (aCons (eTup (aCons (eTup (aCons (eTup (aCons (eC (.bl true)) (aCons (eTup (aCons (eC (.int 1)) (aCons (eC (.int 1)) aNil))) (aCons (eTup (aCons (eC (.int 2)) (aCons (eC (.int 1)) aNil))) aNil)))) aNil)) (aCons (eVar 3) aNil))) (aCons (eTup (aCons (eTup (aCons (eLst (aCons (eC (.int 1)) (aCons (eTup (aCons (eC (.int 1)) (aCons (eC (.int 1)) aNil))) (aCons (eTup (aCons (eC (.int 2)) (aCons (eC (.int 1)) aNil))) aNil)))) aNil)) (aCons (eVar 3) aNil))) (aCons (eTup (aCons (eB cList (aCons (eVar 2) aNil)) (aCons (eVar 3) aNil))) aNil))))))
def c_l_bad_tempos_6 : SF :=
  (sRet (eOp oAdd (eVar 6) (eLc (iSeq (eLc (iRng (aCons (eC (.int 4)) aNil)) (.nm 5) cYes (eCall F_l_bent (aCons (eVar 0) (aCons (eVar 1) aNil))) [5])) (.nm 7) (tTru (eOp oIs (eCall F_is_tempo (aCons (eVar 7) aNil)) (eC (.bl false)))) (eVar 7) [7])))
def b_l_bad_tempos : SF :=
  (sSeq c_l_bad_tempos_0
    (sSeq c_l_bad_tempos_1
    (sSeq c_l_bad_tempos_2
    (sSeq c_l_bad_tempos_3
    (sSeq c_l_bad_tempos_4
    (sSeq c_l_bad_tempos_5
    c_l_bad_tempos_6))))))
def F_l_bad_tempos : FF := runF 8 2 b_l_bad_tempos
def c_l_steps_0 : SF :=
  (sPar 2 3 (aCons (eLst aNil) (aCons (eC (.int 0)) aNil)))
def c_l_steps_1_0 : SF :=
  (sAsg (.nm 2) (eOp oAdd (eVar 2) (eLst (aCons (eVar 3) (aCons (eOp oAdd (eVar 3) (eCall F_l_draw (aCons (eVar 0) (aCons (eOp oIx (eVar 4) (eC (.int 0))) aNil)))) (aCons (eOp oSub (eOp oAdd (eVar 3) (eOp oIx (eVar 4) (eC (.int 0)))) (eC (.int 1))) aNil))))))
def c_l_steps_1_1 : SF :=
  (sAsg (.nm 3) (eOp oAdd (eVar 3) (eOp oIx (eVar 4) (eC (.int 0)))))
def c_l_steps_1 : SF :=
  (sFor (iSeq (eOp oIx (eVar 1) (eC (.int 0)))) (.nm 4)
    (sSeq c_l_steps_1_0
    c_l_steps_1_1))
def c_l_steps_2 : SF :=
  (sRet (eOp oAdd (eVar 2) (eLst (aCons (eVar 3) (aCons (eOp oAdd (eVar 3) (eC (.int 1))) (aCons (eOp oAdd (eVar 3) (eCall F_l_draw (aCons (eVar 0) (aCons (eOp oPow (eC (.int 10)) (eC (.int 6))) aNil)))) (aCons (eOp oSub (eOp oPow (eC (.int 10)) (eC (.int 12))) (eCall F_l_draw (aCons (eVar 0) (aCons (eC (.int 9)) aNil)))) aNil)))))))
def b_l_steps : SF :=
  (sSeq c_l_steps_0
    (sSeq c_l_steps_1
    c_l_steps_2))
def F_l_steps : FF := runF 5 2 b_l_steps
def c_l_full_0 : SF :=
  (sAsg (.tp [(.nm 1), (.nm 2)]) (eTup (aCons (eCall F_l_above (aCons (eVar 0) aNil)) (aCons (eLstS aNil) aNil))))
def c_l_full_1_0 : SF :=
  (sAsg (.tp [(.nm 4), (.nm 5), (.nm 6)]) (eTup (aCons (eOp oIx (eLst (aCons (eC (.int 8333)) (aCons (eC (.int 8341)) aNil))) (eB cInt (aCons (eOp oEq (eVar 3) (eC (.int 23))) aNil))) (aCons (eCall F_l_above (aCons (eVar 0) aNil)) (aCons (eCall F_l_above (aCons (eVar 0) aNil)) aNil)))))
def c_l_full_1_1 : SF :=
  (sAsg (.nm 7) (eLc (iRng (aCons (eC (.int 3)) aNil)) (.nm 8) cYes (eTup (aCons (eVar 4) (aCons (eVar 5) (aCons (eCall F_l_add (aCons (eVar 6) (aCons (eTup (aCons (eVar 8) (aCons (eC (.int 1)) aNil))) aNil))) aNil)))) [8]))
def c_l_full_1_2 : SF :=
  (sAsg (.nm 7) (eLc (iSeq (eVar 7)) (.nm 9) (tTru (eOp oNe (eSl (eVar 9) (pAt (eC (.int 1))) pNo) (eTup (aCons (eVar 1) (aCons (eVar 1) aNil))))) (eVar 9) [9]))
def c_l_full_1_3 : SF :=
  (sAsg (.nm 7) (eLc (iSeq (eVar 7)) (.nm 9) (bOr (tTru (eOp oEq (eVar 2) (eLst aNil))) (bNot (tTru (eCall F_l_goes_on (aCons (eOp oIx (eVar 2) (eNeg (eC (.int 1)))) (aCons (eVar 9) aNil)))))) (eVar 9) [9]))
def c_l_full_1_4 : SF :=
  (sExpr (eApp (eVar 2) (eOp oIx (eVar 7) (eC (.int 0)))))
def c_l_full_1 : SF :=
  (sFor (iRng (aCons (eC (.int 24)) aNil)) (.nm 3)
    (sSeq c_l_full_1_0
    (sSeq c_l_full_1_1
    (sSeq c_l_full_1_2
    (sSeq c_l_full_1_3
    c_l_full_1_4)))))
def c_l_full_2 : SF :=
  (sRet (eTup (aCons (eB cTuple (aCons (eVar 2) aNil)) (aCons (eVar 1) aNil))))
def b_l_full : SF :=
  (sSeq c_l_full_0
    (sSeq c_l_full_1
    c_l_full_2))
def F_l_full : FF := runF 10 1 b_l_full
def c_is_name_0 : SF :=
  (sIf (bOr (bNot (tTru (eIs (eVar 0) "str"))) (bNot (tTru (eChain oLe oLe (eC (.int 1)) (eB cLen (aCons (eVar 0) aNil)) (eC (.int 8))))))
    (sRet (eC (.bl false)))
    sNil)
def c_is_name_1 : SF :=
  (sRet (eAnd (eS0 Txt.isascii (eVar 0)) (eAnd (eS0 Txt.isalpha (eVar 0)) (eS0 Txt.islower (eVar 0)))))
def b_is_name : SF :=
  (sSeq c_is_name_0
    c_is_name_1)
def F_is_name : FF := runF 1 1 b_is_name
def c_is_tones_0 : SF :=
  (sIf (bOr (bNot (tTru (eIs (eVar 0) "tuple"))) (bNot (tTru (eChain oLe oLe (eC (.int 1)) (eB cLen (aCons (eVar 0) aNil)) (eC (.int 200))))))
    (sRet (eC (.bl false)))
    sNil)
def c_is_tones_1 : SF :=
  (sAsg (.nm 1) (eNeg (eC (.int 100000))))
def c_is_tones_2 : SF :=
  (sAsg (.nm 2) (eC (.int 100000)))
def c_is_tones_3_0 : SF :=
  (sIf (bOr (bNot (tTru (eIs (eVar 3) "int"))) (bOr (tTru (eOp oIs (eVar 3) (eC (.bl true)))) (bOr (tTru (eOp oIs (eVar 3) (eC (.bl false)))) (bOr (tTru (eOp oLt (eVar 3) (eVar 1))) (tTru (eOp oGt (eVar 3) (eVar 2)))))))
    (sRet (eC (.bl false)))
    sNil)
def c_is_tones_3 : SF :=
  (sFor (iSeq (eVar 0)) (.nm 3)
    c_is_tones_3_0)
def c_is_tones_4 : SF :=
  (sRet (eC (.bl true)))
def b_is_tones : SF :=
  (sSeq c_is_tones_0
    (sSeq c_is_tones_1
    (sSeq c_is_tones_2
    (sSeq c_is_tones_3
    c_is_tones_4))))
def F_is_tones : FF := runF 4 1 b_is_tones
def c_is_plain_line_0 : SF :=
  (sAsg (.tp [(.tp [(.nm 1), (.nm 2)]), (.tp [(.nm 3), (.nm 4)])]) (eOp oIx (eVar 0) (eC (.int 0))))
def c_is_plain_line_1 : SF :=
  (sIf (tTru (eOp oLt (eVar 3) (eC (.int 0))))
    (sRet (eC (.bl false)))
    sNil)
def c_is_plain_line_2 : SF :=
  (sAsg (.nm 5) (eC (.int 0)))
def c_is_plain_line_3 : SF :=
  (sAsg (.nm 6) (eC (.int 0)))
def c_is_plain_line_4_0 : SF :=
  (sAsg (.nm 11) (eVar 5))
def c_is_plain_line_4_1 : SF :=
  (sAsg (.nm 12) (eVar 6))
def c_is_plain_line_4_2 : SF :=
  (sAsg (.nm 6) (eOp oMul (eOp oMul (eOp oSub (eOp oMul (eVar 7) (eVar 2)) (eOp oMul (eVar 1) (eVar 8))) (eVar 4)) (eVar 10)))
def c_is_plain_line_4_3 : SF :=
  (sAsg (.nm 5) (eOp oMul (eOp oMul (eOp oSub (eOp oMul (eVar 9) (eVar 4)) (eOp oMul (eVar 3) (eVar 10))) (eVar 2)) (eVar 8)))
def c_is_plain_line_4_4 : SF :=
  (sIf (bOr (tTru (eOp oLe (eVar 6) (eC (.int 0)))) (tTru (eOp oLt (eVar 9) (eC (.int 0)))))
    (sRet (eC (.bl false)))
    sNil)
def c_is_plain_line_4_5 : SF :=
  (sIf (bAnd (tTru (eOp oGt (eVar 12) (eC (.int 0)))) (tTru (eOp oEq (eOp oMul (eVar 5) (eVar 12)) (eOp oMul (eVar 11) (eVar 6)))))
    (sRet (eC (.bl false)))
    sNil)
def c_is_plain_line_4_6 : SF :=
  (sAsg (.nm 1) (eVar 7))
def c_is_plain_line_4_7 : SF :=
  (sAsg (.nm 2) (eVar 8))
def c_is_plain_line_4_8 : SF :=
  (sAsg (.nm 3) (eVar 9))
def c_is_plain_line_4_9 : SF :=
  (sAsg (.nm 4) (eVar 10))
def c_is_plain_line_4 : SF :=
  (sFor (iSeq (eSl (eVar 0) (pAt (eC (.int 1))) pNo)) (.tp [(.tp [(.nm 7), (.nm 8)]), (.tp [(.nm 9), (.nm 10)])])
    (sSeq c_is_plain_line_4_0
    (sSeq c_is_plain_line_4_1
    (sSeq c_is_plain_line_4_2
    (sSeq c_is_plain_line_4_3
    (sSeq c_is_plain_line_4_4
    (sSeq c_is_plain_line_4_5
    (sSeq c_is_plain_line_4_6
    (sSeq c_is_plain_line_4_7
    (sSeq c_is_plain_line_4_8
    c_is_plain_line_4_9))))))))))
def c_is_plain_line_5 : SF :=
  (sRet (eC (.bl true)))
def b_is_plain_line : SF :=
  (sSeq c_is_plain_line_0
    (sSeq c_is_plain_line_1
    (sSeq c_is_plain_line_2
    (sSeq c_is_plain_line_3
    (sSeq c_is_plain_line_4
    c_is_plain_line_5)))))
def F_is_plain_line : FF := runF 13 1 b_is_plain_line
def c_first_again_0 : SF :=
  (sAsg (.nm 1) eSet0S)
def c_first_again_1_0 : SF :=
  (sIf (tTru (eOp oIn (eVar 3) (eVar 1)))
    (sRet (eVar 2))
    sNil)
def c_first_again_1_1 : SF :=
  (sExpr (eSAdd (eVar 1) (eVar 3)))
def c_first_again_1 : SF :=
  (sFor (iEnumD (aCons (eVar 0) aNil)) (.tp [(.nm 2), (.nm 3)])
    (sSeq c_first_again_1_0
    c_first_again_1_1))
def c_first_again_2 : SF :=
  (sRet (eC .non))
def b_first_again : SF :=
  (sSeq c_first_again_0
    (sSeq c_first_again_1
    c_first_again_2))
def F_first_again : FF := runF 4 1 b_first_again
def c_is_take_0 : SF :=
  (sIf (bNot (tTru (eCall F_is_tuple_of (aCons (eVar 0) (aCons (eC (.int 2)) aNil)))))
    (sRet (eC (.bl false)))
    sNil)
def c_is_take_1 : SF :=
  (sRet (eAnd (eCall F_is_name (aCons (eOp oIx (eVar 0) (eC (.int 0))) aNil)) (eCall F_is_tones (aCons (eOp oIx (eVar 0) (eC (.int 1))) aNil))))
def b_is_take : SF :=
  (sSeq c_is_take_0
    c_is_take_1)
def F_is_take : FF := runF 1 1 b_is_take
def c_is_shape_0 : SF :=
  (sIf (bOr (bNot (tTru (eIs (eVar 0) "tuple"))) (bNot (tTru (eChain oLe oLe (eC (.int 2)) (eB cLen (aCons (eVar 0) aNil)) (eC (.int 12))))))
    (sRet (eC (.bl false)))
    sNil)
def c_is_shape_1_0 : SF :=
  (sIf (bOr (bNot (tTru (eIs (eVar 1) "tuple"))) (tTru (eOp oNe (eB cLen (aCons (eVar 1) aNil)) (eC (.int 2)))))
    (sRet (eC (.bl false)))
    sNil)
def c_is_shape_1_1 : SF :=
  (sIf (bOr (bNot (tTru (eCall F_is_fraction (aCons (eOp oIx (eVar 1) (eC (.int 0))) aNil)))) (bNot (tTru (eCall F_is_fraction (aCons (eOp oIx (eVar 1) (eC (.int 1))) aNil)))))
    (sRet (eC (.bl false)))
    sNil)
def c_is_shape_1 : SF :=
  (sFor (iSeq (eVar 0)) (.nm 1)
    (sSeq c_is_shape_1_0
    c_is_shape_1_1))
def c_is_shape_2 : SF :=
  (sRet (eAnd (eOp oGe (eOp oIx (eOp oIx (eOp oIx (eVar 0) (eC (.int 0))) (eC (.int 0))) (eC (.int 0))) (eC (.int 0))) (eCall F_is_plain_line (aCons (eVar 0) aNil))))
def b_is_shape : SF :=
  (sSeq c_is_shape_0
    (sSeq c_is_shape_1
    c_is_shape_2))
def F_is_shape : FF := runF 2 1 b_is_shape
def c_is_frame_0 : SF :=
  (sIf (bNot (tTru (eCall F_is_tuple_of (aCons (eVar 0) (aCons (eC (.int 3)) aNil)))))
    (sRet (eC (.bl false)))
    sNil)
def c_is_frame_1 : SF :=
  (sAsg (.tp [(.nm 1), (.nm 2), (.nm 3)]) (eVar 0))
def c_is_frame_2 : SF :=
  (sIf (bOr (bNot (tTru (eIs (eVar 2) "tuple"))) (bNot (tTru (eIs (eVar 3) "tuple"))))
    (sRet (eC (.bl false)))
    sNil)
def c_is_frame_3 : SF :=
  (sRet (eAnd (eOp oLe (eB cLen (aCons (eVar 2) aNil)) (eC (.int 12))) (eOp oLe (eB cLen (aCons (eVar 3) aNil)) (eC (.int 12)))))
def b_is_frame : SF :=
  (sSeq c_is_frame_0
    (sSeq c_is_frame_1
    (sSeq c_is_frame_2
    c_is_frame_3)))
def F_is_frame : FF := runF 4 1 b_is_frame
def c_refuse_no_steps_0 : SF :=
  (sIf (bOr (bNot (tTru (eCall F_is_whole_within (aCons (eVar 1) (aCons (eC (.int 1)) (aCons (eVar 2) aNil)))))) (bNot (tTru (eCall F_is_whole_within (aCons (eVar 0) (aCons (eC (.int 0)) (aCons (eOp oSub (eVar 1) (eC (.int 1))) aNil)))))))
    (sRaise "NoStep")
    sNil)
def b_refuse_no_steps : SF :=
  c_refuse_no_steps_0
def F_refuse_no_steps : FF := runF 3 3 b_refuse_no_steps
def c_l_names_0 : SF :=
  (sPar 2 3 (aCons (eC (.str "abcdefghijklmnopqrstuvwxyz")) (aCons (eLstS aNil) aNil)))
def c_l_names_1 : SF :=
  (sPar 4 5 (aCons (eOp oAdd (eOp oIx (eLst (aCons (eC (.int 1)) (aCons (eC (.int 3)) (aCons (eC (.int 5)) (aCons (eC (.int 7)) (aCons (eC (.int 9)) (aCons (eC (.int 11)) (aCons (eC (.int 15)) (aCons (eC (.int 17)) aNil))))))))) (eCall F_l_draw (aCons (eVar 0) (aCons (eC (.int 8)) aNil)))) (eOp oMul (eC (.int 26)) (eCall F_l_draw (aCons (eVar 0) (aCons (eC (.int 13)) aNil))))) (aCons (eCall F_l_draw (aCons (eVar 0) (aCons (eC (.int 676)) aNil))) aNil)))
def c_l_names_2_0 : SF :=
  (sAsg (.nm 7) (eOp oIx (eLst (aCons (eC (.str "")) (aCons (eC (.str "")) (aCons (eC (.str "a")) (aCons (eC (.str "zz")) (aCons (eC (.str "title")) (aCons (eC (.str "lanesl")) (aCons (eC (.str "b")) aNil)))))))) (eCall F_l_draw (aCons (eVar 0) (aCons (eC (.int 7)) aNil)))))
def c_l_names_2_1 : SF :=
  (sExpr (eApp (eVar 3) (eOp oAdd (eOp oAdd (eVar 7) (eOp oIx (eVar 2) (eOp oDiv (eVar 5) (eC (.int 26))))) (eOp oIx (eVar 2) (eOp oMod (eVar 5) (eC (.int 26)))))))
def c_l_names_2_2 : SF :=
  (sAsg (.nm 5) (eOp oMod (eOp oAdd (eVar 5) (eVar 4)) (eC (.int 676))))
def c_l_names_2 : SF :=
  (sFor (iRng (aCons (eVar 1) aNil)) (.nm 6)
    (sSeq c_l_names_2_0
    (sSeq c_l_names_2_1
    c_l_names_2_2)))
def c_l_names_3 : SF :=
  (sRet (eVar 3))
def b_l_names : SF :=
  (sSeq c_l_names_0
    (sSeq c_l_names_1
    (sSeq c_l_names_2
    c_l_names_3)))
def F_l_names : FF := runF 8 2 b_l_names
def c_l_numbers_0 : SF :=
  (sAsg (.tp [(.nm 2), (.nm 3)]) (eTup (aCons (eCall F_l_draw (aCons (eVar 0) (aCons (eC (.int 99991)) aNil))) (aCons (eOp oAdd (eC (.int 1)) (eOp oIx (eLst (aCons (eCall F_l_draw (aCons (eVar 0) (aCons (eC (.int 9)) aNil))) (aCons (eCall F_l_draw (aCons (eVar 0) (aCons (eC (.int 99990)) aNil))) aNil))) (eCall F_l_draw (aCons (eVar 0) (aCons (eC (.int 2)) aNil))))) aNil))))
def c_l_numbers_1 : SF :=
  (sRet (eLc (iRng (aCons (eVar 1) aNil)) (.nm 4) cYes (eOp oAdd (eC (.int 1)) (eOp oMod (eOp oAdd (eVar 2) (eOp oMul (eVar 4) (eVar 3))) (eC (.int 99991)))) [4]))
def b_l_numbers : SF :=
  (sSeq c_l_numbers_0
    c_l_numbers_1)
def F_l_numbers : FF := runF 5 2 b_l_numbers
def c_l_take_0 : SF :=
  (sAsg (.nm 2) (eOp oIx (eLst (aCons (eOp oAdd (eC (.int 1)) (eCall F_l_draw (aCons (eVar 0) (aCons (eC (.int 9)) aNil)))) (aCons (eOp oAdd (eC (.int 1)) (eCall F_l_draw (aCons (eVar 0) (aCons (eC (.int 9)) aNil)))) (aCons (eC (.int 40)) aNil)))) (eOp oMul (eB cInt (aCons (eOp oEq (eCall F_l_draw (aCons (eVar 0) (aCons (eC (.int 9)) aNil))) (eC (.int 0))) aNil)) (eC (.int 2)))))
def c_l_take_1 : SF :=
  (sAsg (.nm 3) (eOp oIx (eLst (aCons (eC (.int 9)) (aCons (eC (.int 100000)) aNil))) (eB cInt (aCons (eOp oEq (eCall F_l_draw (aCons (eVar 0) (aCons (eC (.int 4)) aNil))) (eC (.int 0))) aNil))))
def c_l_take_2 : SF :=
  (sRet (eTup (aCons (eVar 1) (aCons (eB cTuple (aCons (eLc (iRng (aCons (eVar 2) aNil)) (.nm 4) cYes (eOp oSub (eCall F_l_draw (aCons (eVar 0) (aCons (eOp oAdd (eOp oMul (eC (.int 2)) (eVar 3)) (eC (.int 1))) aNil))) (eVar 3)) [4]) aNil)) aNil))))
def b_l_take : SF :=
  (sSeq c_l_take_0
    (sSeq c_l_take_1
    c_l_take_2))
def F_l_take : FF := runF 5 2 b_l_take
def c_l_edge_0 : SF :=
  (sAsg (.nm 2) (eLst (aCons (eC (.int 0)) aNil)))
def c_l_edge_1_0 : SF :=
  (sAsg (.nm 2) (eOp oAdd (eVar 2) (eLst (aCons (eOp oAdd (eOp oIx (eVar 2) (eNeg (eC (.int 1)))) (eCall F_l_draw (aCons (eVar 0) (aCons (eOp oIx (eVar 3) (eC (.int 0))) aNil)))) (aCons (eOp oAdd (eOp oIx (eVar 2) (eNeg (eC (.int 1)))) (eOp oIx (eVar 3) (eC (.int 0)))) aNil)))))
def c_l_edge_1 : SF :=
  (sFor (iSeq (eOp oIx (eVar 1) (eC (.int 0)))) (.nm 3)
    c_l_edge_1_0)
def c_l_edge_2 : SF :=
  (sAsg (.nm 4) (eOp oAdd (eOp oIx (eVar 2) (eCall F_l_draw (aCons (eVar 0) (aCons (eB cLen (aCons (eVar 2) aNil)) aNil)))) (eOp oMul (eCall F_l_draw (aCons (eVar 0) (aCons (eC (.int 3)) aNil))) (eCall F_l_draw (aCons (eVar 0) (aCons (eC (.int 2)) aNil))))))
def c_l_edge_3 : SF :=
  (sRet (eOp oIx (eLst (aCons (eVar 4) (aCons (eB cMax (aCons (eC (.int 0)) (aCons (eOp oSub (eVar 4) (eC (.int 1))) aNil))) (aCons (eCall F_l_draw (aCons (eVar 0) (aCons (eC (.int 40)) aNil))) (aCons (eVar 4) aNil))))) (eCall F_l_draw (aCons (eVar 0) (aCons (eC (.int 4)) aNil)))))
def b_l_edge : SF :=
  (sSeq c_l_edge_0
    (sSeq c_l_edge_1
    (sSeq c_l_edge_2
    c_l_edge_3)))
def F_l_edge : FF := runF 5 2 b_l_edge
def c_is_piece_0 : SF :=
  (sIf (bNot (tTru (eCall F_is_tuple_of (aCons (eVar 0) (aCons (eC (.int 8)) aNil)))))
    (sRet (eC (.bl false)))
    sNil)
def c_is_piece_1 : SF :=
  (sAsg (.tp [(.nm 1), (.nm 2), (.nm 3), (.nm 4), (.nm 5), (.nm 6), (.nm 7), (.nm 8)]) (eVar 0))
def c_is_piece_2 : SF :=
  (sIf (bOr (bNot (tTru (eCall F_is_whole_within (aCons (eVar 1) (aCons (eC (.int 1)) (aCons (eC (.int 99999)) aNil)))))) (bOr (bNot (tTru (eCall F_is_name (aCons (eVar 2) aNil)))) (tTru (eOp oNotIn (eVar 5) (eC (.tup [(.str "free"), (.str "bound")]))))))
    (sRet (eC (.bl false)))
    sNil)
def c_is_piece_3 : SF :=
  (sIf (bOr (bNot (tTru (eCall F_is_whole_within (aCons (eVar 3) (aCons (eC (.int 0)) (aCons (eC (.int 100000)) aNil)))))) (bNot (tTru (eCall F_is_whole_within (aCons (eVar 4) (aCons (eC (.int 1)) (aCons (eOp oSub (eC (.int 100000)) (eVar 3)) aNil)))))))
    (sRet (eC (.bl false)))
    sNil)
def c_is_piece_4 : SF :=
  (sIf (bOr (bNot (tTru (eCall F_is_from_nought (aCons (eVar 6) aNil)))) (bNot (tTru (eCall F_is_above_nought (aCons (eVar 7) aNil)))))
    (sRet (eC (.bl false)))
    sNil)
def c_is_piece_5 : SF :=
  (sRet (eAnd (eCall F_is_shape (aCons (eVar 8) aNil)) (eAnd (eOp oEq (eOp oIx (eOp oIx (eVar 8) (eC (.int 0))) (eC (.int 0))) (eC (.tup [(.int 0), (.int 1)]))) (eOp oEq (eOp oIx (eOp oIx (eVar 8) (eNeg (eC (.int 1)))) (eC (.int 0))) (eTup (aCons (eVar 4) (aCons (eC (.int 1)) aNil)))))))
def b_is_piece : SF :=
  (sSeq c_is_piece_0
    (sSeq c_is_piece_1
    (sSeq c_is_piece_2
    (sSeq c_is_piece_3
    (sSeq c_is_piece_4
    c_is_piece_5)))))
def F_is_piece : FF := runF 9 1 b_is_piece
def c_is_lane_frame_0 : SF :=
  (sIf (bNot (tTru (eCall F_is_tuple_of (aCons (eVar 0) (aCons (eC (.int 4)) aNil)))))
    (sRet (eC (.bl false)))
    sNil)
def c_is_lane_frame_1 : SF :=
  (sAsg (.tp [(.nm 1), (.nm 2), (.nm 3), (.nm 4)]) (eVar 0))
def c_is_lane_frame_2 : SF :=
  (sIf (bOr (bNot (tTru (eCall F_is_name (aCons (eVar 1) aNil)))) (bNot (tTru (eCall F_is_from_nought (aCons (eVar 2) aNil)))))
    (sRet (eC (.bl false)))
    sNil)
def c_is_lane_frame_3 : SF :=
  (sRet (eAnd (eCall F_is_whole_within (aCons (eVar 3) (aCons (eC (.int 0)) (aCons (eC (.int 1)) aNil)))) (eIs (eVar 4) "tuple")))
def b_is_lane_frame : SF :=
  (sSeq c_is_lane_frame_0
    (sSeq c_is_lane_frame_1
    (sSeq c_is_lane_frame_2
    c_is_lane_frame_3)))
def F_is_lane_frame : FF := runF 5 1 b_is_lane_frame
def c_fault_of_takes_0_0 : SF :=
  (sIf (bNot (tTru (eCall F_is_take (aCons (eVar 2) aNil))))
    (sRet (eTup (aCons (eC (.str "take")) (aCons (eVar 1) aNil))))
    sNil)
def c_fault_of_takes_0 : SF :=
  (sFor (iEnumD (aCons (eVar 0) aNil)) (.tp [(.nm 1), (.nm 2)])
    c_fault_of_takes_0_0)
def c_fault_of_takes_1 : SF :=
  (sAsg (.nm 3) (eCall F_first_again (aCons (eLc (iSeq (eVar 0)) (.nm 2) cYes (eOp oIx (eVar 2) (eC (.int 0))) [2]) aNil)))
def c_fault_of_takes_2 : SF :=
  (sRet (eIf (tTru (eOp oIs (eVar 3) (eC .non))) (eC .non) (eTup (aCons (eC (.str "alike")) (aCons (eVar 3) aNil)))))
def b_fault_of_takes : SF :=
  (sSeq c_fault_of_takes_0
    (sSeq c_fault_of_takes_1
    c_fault_of_takes_2))
def F_fault_of_takes : FF := runF 4 1 b_fault_of_takes
def c_l_from_0 : SF :=
  (sRet (eOp oIx (eLst (aCons (eTup (aCons (eC (.int 0)) (aCons (eC (.int 1)) aNil))) (aCons (eTup (aCons (eCall F_l_draw (aCons (eVar 0) (aCons (eC (.int 7)) aNil))) (aCons (eC (.int 1)) aNil))) (aCons (eCall F_l_above (aCons (eVar 0) aNil)) aNil)))) (eCall F_l_draw (aCons (eVar 0) (aCons (eC (.int 3)) aNil)))))
def b_l_from : SF :=
  c_l_from_0
def F_l_from : FF := runF 1 1 b_l_from
def c_l_plain_0 : SF :=
  (sAsg (.nm 1) (eB cListS (aCons (eSl (eVar 0) pNo (pAt (eC (.int 1)))) aNil)))
def c_l_plain_1_0 : SF :=
  (sAsg (.nm 3) (eC (.bl false)))
def c_l_plain_1_1 : SF :=
  (sIf (tTru (eOp oLt (eOp oAdd (eVar 2) (eC (.int 1))) (eB cLen (aCons (eVar 0) aNil))))
    (sSeq (sPar 4 5 (aCons (eOp oIx (eVar 1) (eNeg (eC (.int 1)))) (aCons (eOp oIx (eVar 0) (eVar 2)) aNil)))
    (sSeq (sAsg (.nm 6) (eOp oIx (eVar 0) (eOp oAdd (eVar 2) (eC (.int 1)))))
    (sSeq (sAsg (.nm 7) (eCall F_l_div (aCons (eCall F_l_sub (aCons (eOp oIx (eVar 5) (eC (.int 1))) (aCons (eOp oIx (eVar 4) (eC (.int 1))) aNil))) (aCons (eCall F_l_sub (aCons (eOp oIx (eVar 5) (eC (.int 0))) (aCons (eOp oIx (eVar 4) (eC (.int 0))) aNil))) aNil))))
    (sAsg (.nm 3) (eOp oEq (eVar 7) (eCall F_l_div (aCons (eCall F_l_sub (aCons (eOp oIx (eVar 6) (eC (.int 1))) (aCons (eOp oIx (eVar 5) (eC (.int 1))) aNil))) (aCons (eCall F_l_sub (aCons (eOp oIx (eVar 6) (eC (.int 0))) (aCons (eOp oIx (eVar 5) (eC (.int 0))) aNil))) aNil))))))))
    sNil)
def c_l_plain_1_2 : SF :=
  (sIf (bNot (tTru (eVar 3)))
    (sExpr (eApp (eVar 1) (eOp oIx (eVar 0) (eVar 2))))
    sNil)
def c_l_plain_1 : SF :=
  (sFor (iRng (aCons (eC (.int 1)) (aCons (eB cLen (aCons (eVar 0) aNil)) aNil))) (.nm 2)
    (sSeq c_l_plain_1_0
    (sSeq c_l_plain_1_1
    c_l_plain_1_2)))
def c_l_plain_2 : SF :=
  (sRet (eB cTuple (aCons (eVar 1) aNil)))
def b_l_plain : SF :=
  (sSeq c_l_plain_0
    (sSeq c_l_plain_1
    c_l_plain_2))
def F_l_plain : FF := runF 8 1 b_l_plain
def c_length_from_0 : SF :=
  (sRet (eCall F_plus (aCons (eOp oIx (eVar 0) (eC (.int 1))) (aCons (eCall F_times (aCons (eCall F_rise_of (aCons (eVar 0) aNil)) (aCons (eTup (aCons (eVar 1) (aCons (eC (.int 1)) aNil))) aNil))) aNil))))
def b_length_from : SF :=
  c_length_from_0
def F_length_from : FF := runF 2 2 b_length_from
def c_fault_of_lanes_0_0 : SF :=
  (sIf (bNot (tTru (eCall F_is_lane_frame (aCons (eVar 2) aNil))))
    (sRet (eTup (aCons (eC (.str "lane")) (aCons (eVar 1) aNil))))
    sNil)
def c_fault_of_lanes_0 : SF :=
  (sFor (iEnumD (aCons (eVar 0) aNil)) (.tp [(.nm 1), (.nm 2)])
    c_fault_of_lanes_0_0)
def c_fault_of_lanes_1 : SF :=
  (sAsg (.nm 3) (eCall F_first_again (aCons (eLc (iSeq (eVar 0)) (.nm 2) cYes (eOp oIx (eVar 2) (eC (.int 0))) [2]) aNil)))
def c_fault_of_lanes_2 : SF :=
  (sRet (eIf (tTru (eOp oIs (eVar 3) (eC .non))) (eC .non) (eTup (aCons (eC (.str "same")) (aCons (eVar 3) aNil)))))
def b_fault_of_lanes : SF :=
  (sSeq c_fault_of_lanes_0
    (sSeq c_fault_of_lanes_1
    c_fault_of_lanes_2))
def F_fault_of_lanes : FF := runF 4 1 b_fault_of_lanes
def c_fault_of_pieces_0 : SF :=
  (sAsg (.nm 2) (eLc2 (iEnumD (aCons (eVar 1) aNil)) (.tp [(.nm 3), (.nm 4)]) cYes (iEnumD (aCons (eOp oIx (eVar 4) (eC (.int 3))) aNil)) (.tp [(.nm 5), (.nm 6)]) cYes (eTup (aCons (eVar 3) (aCons (eVar 5) (aCons (eVar 6) aNil)))) [3, 4, 5, 6] [5, 6]))
def c_fault_of_pieces_1_0 : SF :=
  (sIf (bNot (tTru (eCall F_is_piece (aCons (eVar 6) aNil))))
    (sRet (eTup (aCons (eC (.str "piece")) (aCons (eVar 3) (aCons (eVar 5) aNil)))))
    sNil)
def c_fault_of_pieces_1 : SF :=
  (sFor (iSeq (eVar 2)) (.tp [(.nm 3), (.nm 5), (.nm 6)])
    c_fault_of_pieces_1_0)
def c_fault_of_pieces_2 : SF :=
  (sIf (tTru (eOp oGt (eB cLen (aCons (eVar 2) aNil)) (eC (.int 60))))
    (sRet (eTup (aCons (eC (.str "many")) aNil)))
    sNil)
def c_fault_of_pieces_3 : SF :=
  (sAsg (.nm 7) (eCall F_first_again (aCons (eLc (iSeq (eVar 2)) (.nm 8) cYes (eOp oIx (eOp oIx (eVar 8) (eC (.int 2))) (eC (.int 0))) [8]) aNil)))
def c_fault_of_pieces_4 : SF :=
  (sIf (tTru (eOp oIsnt (eVar 7) (eC .non)))
    (sRet (eTup (aCons (eC (.str "twice")) (aCons (eOp oIx (eOp oIx (eVar 2) (eVar 7)) (eC (.int 0))) (aCons (eOp oIx (eOp oIx (eVar 2) (eVar 7)) (eC (.int 1))) aNil)))))
    sNil)
def c_fault_of_pieces_5 : SF :=
  (sAsg (.nm 9) (eKcS (iSeq (eVar 0)) (.nm 10) cYes (eOp oIx (eVar 10) (eC (.int 0))) [10]))
def c_fault_of_pieces_6_0 : SF :=
  (sIf (tTru (eOp oNotIn (eOp oIx (eVar 6) (eC (.int 1))) (eVar 9)))
    (sRet (eTup (aCons (eC (.str "untaken")) (aCons (eVar 3) (aCons (eVar 5) aNil)))))
    sNil)
def c_fault_of_pieces_6 : SF :=
  (sFor (iSeq (eVar 2)) (.tp [(.nm 3), (.nm 5), (.nm 6)])
    c_fault_of_pieces_6_0)
def c_fault_of_pieces_7 : SF :=
  (sRet (eC .non))
def b_fault_of_pieces : SF :=
  (sSeq c_fault_of_pieces_0
    (sSeq c_fault_of_pieces_1
    (sSeq c_fault_of_pieces_2
    (sSeq c_fault_of_pieces_3
    (sSeq c_fault_of_pieces_4
    (sSeq c_fault_of_pieces_5
    (sSeq c_fault_of_pieces_6
    c_fault_of_pieces_7)))))))
def F_fault_of_pieces : FF := runF 11 2 b_fault_of_pieces
def c_l_shape_0 : SF :=
  (sAsg (.nm 2) (eOp oIx (eLst (aCons (eC (.int 1)) (aCons (eC (.int 1)) (aCons (eC (.int 2)) (aCons (eC (.int 3)) (aCons (eC (.int 7)) aNil)))))) (eCall F_l_draw (aCons (eVar 0) (aCons (eC (.int 5)) aNil)))))
def c_l_shape_1 : SF :=
  (sAsg (.nm 3) (eLstS (aCons (eTup (aCons (eTup (aCons (eC (.int 0)) (aCons (eC (.int 1)) aNil))) (aCons (eCall F_l_from (aCons (eVar 0) aNil)) aNil))) aNil)))
def c_l_shape_2_0 : SF :=
  (sIf (bAnd (tTru (eOp oLt (eB cLen (aCons (eVar 3) aNil)) (eC (.int 11)))) (tTru (eOp oEq (eCall F_l_draw (aCons (eVar 0) (aCons (eOp oAdd (eC (.int 3)) (eOp oDiv (eOp oMul (eVar 1) (eVar 2)) (eC (.int 4)))) aNil))) (eC (.int 0)))))
    (sExpr (eApp (eVar 3) (eTup (aCons (eCall F_l_low (aCons (eVar 4) (aCons (eVar 2) aNil))) (aCons (eCall F_l_from (aCons (eVar 0) aNil)) aNil)))))
    sNil)
def c_l_shape_2 : SF :=
  (sFor (iRng (aCons (eC (.int 1)) (aCons (eOp oMul (eVar 1) (eVar 2)) aNil))) (.nm 4)
    c_l_shape_2_0)
def c_l_shape_3 : SF :=
  (sExpr (eApp (eVar 3) (eTup (aCons (eTup (aCons (eVar 1) (aCons (eC (.int 1)) aNil))) (aCons (eCall F_l_from (aCons (eVar 0) aNil)) aNil)))))
def c_l_shape_4 : SF :=
  (sRet (eCall F_l_plain (aCons (eVar 3) aNil)))
def b_l_shape : SF :=
  (sSeq c_l_shape_0
    (sSeq c_l_shape_1
    (sSeq c_l_shape_2
    (sSeq c_l_shape_3
    c_l_shape_4))))
def F_l_shape : FF := runF 5 2 b_l_shape
def c_l_spans_0 : SF :=
  (sAsg (.nm 3) (eLstS aNil))
def c_l_spans_1 : SF :=
  (sAsg (.nm 4) (eC (.int 0)))
def c_l_spans_2_0 : SF :=
  (sPar 6 7 (aCons (eB cMax (aCons (eVar 1) (aCons (eVar 4) aNil))) (aCons (eB cMin (aCons (eVar 2) (aCons (eOp oAdd (eVar 4) (eOp oIx (eVar 5) (eC (.int 0)))) aNil))) aNil)))
def c_l_spans_2_1 : SF :=
  (sIf (tTru (eOp oLt (eVar 6) (eVar 7)))
    (sExpr (eApp (eVar 3) (eTup (aCons (eOp oSub (eVar 7) (eVar 6)) (aCons (eCall F_l_line (aCons (eVar 5) (aCons (eOp oMul (eC (.int 2)) (eOp oSub (eVar 6) (eVar 4))) aNil))) (aCons (eCall F_l_line (aCons (eVar 5) (aCons (eOp oMul (eC (.int 2)) (eOp oSub (eVar 7) (eVar 4))) aNil))) aNil))))))
    sNil)
def c_l_spans_2_2 : SF :=
  (sAsg (.nm 4) (eOp oAdd (eVar 4) (eOp oIx (eVar 5) (eC (.int 0)))))
def c_l_spans_2 : SF :=
  (sFor (iSeq (eOp oIx (eVar 0) (eC (.int 0)))) (.nm 5)
    (sSeq c_l_spans_2_0
    (sSeq c_l_spans_2_1
    c_l_spans_2_2)))
def c_l_spans_3 : SF :=
  (sIf (tTru (eOp oGt (eVar 2) (eB cMax (aCons (eVar 1) (aCons (eVar 4) aNil)))))
    (sExpr (eApp (eVar 3) (eTup (aCons (eOp oSub (eVar 2) (eB cMax (aCons (eVar 1) (aCons (eVar 4) aNil)))) (aCons (eOp oIx (eVar 0) (eC (.int 1))) (aCons (eOp oIx (eVar 0) (eC (.int 1))) aNil))))))
    sNil)
def c_l_spans_4 : SF :=
  (sRet (eVar 3))
def b_l_spans : SF :=
  (sSeq c_l_spans_0
    (sSeq c_l_spans_1
    (sSeq c_l_spans_2
    (sSeq c_l_spans_3
    c_l_spans_4))))
def F_l_spans : FF := runF 8 3 b_l_spans
def fu_l_joined_0 : Lc → Sto → Nat := fun _ _ => 100000
def c_l_joined_0 : SF :=
  (sAsg (.nm 2) (eLstS aNil))
def c_l_joined_1_0 : SF :=
  (sIf (bAnd (tTru (eOp oNe (eVar 2) (eLst aNil))) (tTru (eCall F_l_goes_on (aCons (eOp oIx (eVar 2) (eNeg (eC (.int 1)))) (aCons (eVar 3) aNil)))))
    (sSub (eVar 2) (eNeg (eC (.int 1))) (eTup (aCons (eOp oAdd (eOp oIx (eOp oIx (eVar 2) (eNeg (eC (.int 1)))) (eC (.int 0))) (eOp oIx (eVar 3) (eC (.int 0)))) (aCons (eOp oIx (eOp oIx (eVar 2) (eNeg (eC (.int 1)))) (eC (.int 1))) (aCons (eOp oIx (eVar 3) (eC (.int 2))) aNil)))))
    (sExpr (eApp (eVar 2) (eVar 3))))
def c_l_joined_1 : SF :=
  (sFor (iSeq (eVar 0)) (.nm 3)
    c_l_joined_1_0)
def c_l_joined_2_0 : SF :=
  (sExpr (ePop (eVar 2)))
def c_l_joined_2 : SF :=
  (sWh fu_l_joined_0 (bAnd (tTru (eOp oNe (eVar 2) (eLst aNil))) (tTru (eOp oEq (eSl (eOp oIx (eVar 2) (eNeg (eC (.int 1)))) (pAt (eC (.int 1))) pNo) (eTup (aCons (eVar 1) (aCons (eVar 1) aNil))))))
    c_l_joined_2_0)
def c_l_joined_3 : SF :=
  (sRet (eTup (aCons (eB cTuple (aCons (eVar 2) aNil)) (aCons (eVar 1) aNil))))
def b_l_joined : SF :=
  (sSeq c_l_joined_0
    (sSeq c_l_joined_1
    (sSeq c_l_joined_2
    c_l_joined_3)))
def F_l_joined : FF := runF 4 2 b_l_joined
def c_l_again_0 : SF :=
  (sAsg (.tp [(.nm 2), (.nm 3)]) (eOp oIx (eVar 1) (eC (.int 0))))
def c_l_again_1 : SF :=
  (sIf (bOr (tTru (eOp oEq (eCall F_l_draw (aCons (eVar 0) (aCons (eC (.int 2)) aNil))) (eC (.int 0)))) (bOr (tTru (eOp oEq (eVar 2) (eTup aNil))) (tTru (eOp oEq (eSl (eOp oIx (eVar 2) (eC (.int 0))) (pAt (eC (.int 1))) pNo) (eTup (aCons (eVar 3) (aCons (eVar 3) aNil)))))))
    (sRet (eVar 1))
    sNil)
def c_l_again_2 : SF :=
  (sIf (tTru (eCall F_l_goes_on (aCons (eOp oIx (eVar 2) (eNeg (eC (.int 1)))) (aCons (eOp oIx (eVar 2) (eC (.int 0))) aNil))))
    (sRet (eVar 1))
    sNil)
def c_l_again_3 : SF :=
  (sRet (eOp oAdd (eTup (aCons (eTup (aCons (eOp oAdd (eVar 2) (eSl (eVar 2) pNo (pAt (eC (.int 1))))) (aCons (eVar 3) aNil))) aNil)) (eSl (eVar 1) (pAt (eC (.int 1))) pNo)))
def b_l_again : SF :=
  (sSeq c_l_again_0
    (sSeq c_l_again_1
    (sSeq c_l_again_2
    c_l_again_3)))
def F_l_again : FF := runF 4 2 b_l_again
def c_stretches_between_0 : SF :=
  (sAsg (.tp [(.nm 3), (.nm 4)]) (eVar 0))
def c_stretches_between_1 : SF :=
  (sAsg (.nm 5) (eLstS aNil))
def c_stretches_between_2 : SF :=
  (sAsg (.nm 6) (eC (.int 0)))
def c_stretches_between_3_0 : SF :=
  (sAsg (.nm 8) (eB cMax (aCons (eOp oSub (eVar 1) (eVar 6)) (aCons (eC (.int 0)) aNil))))
def c_stretches_between_3_1 : SF :=
  (sAsg (.nm 9) (eB cMin (aCons (eOp oSub (eVar 2) (eVar 6)) (aCons (eOp oIx (eVar 7) (eC (.int 0))) aNil))))
def c_stretches_between_3_2 : SF :=
  (sIf (tTru (eOp oLt (eVar 8) (eVar 9)))
    (sExpr (eApp (eVar 5) (eTup (aCons (eOp oSub (eVar 9) (eVar 8)) (aCons (eCall F_length_from (aCons (eVar 7) (aCons (eVar 8) aNil))) (aCons (eCall F_length_from (aCons (eVar 7) (aCons (eVar 9) aNil))) aNil))))))
    sNil)
def c_stretches_between_3_3 : SF :=
  (sAug 6 (eOp oIx (eVar 7) (eC (.int 0))))
def c_stretches_between_3 : SF :=
  (sFor (iSeq (eVar 3)) (.nm 7)
    (sSeq c_stretches_between_3_0
    (sSeq c_stretches_between_3_1
    (sSeq c_stretches_between_3_2
    c_stretches_between_3_3))))
def c_stretches_between_4 : SF :=
  (sIf (tTru (eOp oLt (eB cMax (aCons (eVar 1) (aCons (eVar 6) aNil))) (eVar 2)))
    (sExpr (eApp (eVar 5) (eTup (aCons (eOp oSub (eVar 2) (eB cMax (aCons (eVar 1) (aCons (eVar 6) aNil)))) (aCons (eVar 4) (aCons (eVar 4) aNil))))))
    sNil)
def c_stretches_between_5 : SF :=
  (sRet (eVar 5))
def b_stretches_between : SF :=
  (sSeq c_stretches_between_0
    (sSeq c_stretches_between_1
    (sSeq c_stretches_between_2
    (sSeq c_stretches_between_3
    (sSeq c_stretches_between_4
    c_stretches_between_5)))))
def F_stretches_between : FF := runF 10 3 b_stretches_between
def fu_plain_tempo_0 : Lc → Sto → Nat := fun _ _ => 100000
def c_plain_tempo_0 : SF :=
  (sAsg (.nm 2) (eLstS aNil))
def c_plain_tempo_1_0 : SF :=
  (sIf (bAnd (tTru (eVar 2)) (tTru (eCall F_goes_on (aCons (eOp oIx (eVar 2) (eNeg (eC (.int 1)))) (aCons (eVar 3) aNil)))))
    (sSeq (sAsg (.nm 4) (ePop (eVar 2)))
    (sAsg (.nm 3) (eTup (aCons (eOp oAdd (eOp oIx (eVar 4) (eC (.int 0))) (eOp oIx (eVar 3) (eC (.int 0)))) (aCons (eOp oIx (eVar 4) (eC (.int 1))) (aCons (eOp oIx (eVar 3) (eC (.int 2))) aNil))))))
    sNil)
def c_plain_tempo_1_1 : SF :=
  (sExpr (eApp (eVar 2) (eVar 3)))
def c_plain_tempo_1 : SF :=
  (sFor (iSeq (eVar 0)) (.nm 3)
    (sSeq c_plain_tempo_1_0
    c_plain_tempo_1_1))
def c_plain_tempo_2_0 : SF :=
  (sExpr (ePop (eVar 2)))
def c_plain_tempo_2 : SF :=
  (sWh fu_plain_tempo_0 (bAnd (tTru (eVar 2)) (tTru (eOp oEq (eSl (eOp oIx (eVar 2) (eNeg (eC (.int 1)))) (pAt (eC (.int 1))) pNo) (eTup (aCons (eVar 1) (aCons (eVar 1) aNil))))))
    c_plain_tempo_2_0)
def c_plain_tempo_3 : SF :=
  (sIf (bOr (tTru (eOp oGt (eB cLen (aCons (eVar 2) aNil)) (eC (.int 24)))) (tTru (eOp oGt (eB cSum (aCons (eLc (iSeq (eVar 2)) (.nm 3) cYes (eOp oIx (eVar 3) (eC (.int 0))) [3]) aNil)) (eC (.int 200000)))))
    (sRaise "TooMany")
    sNil)
def c_plain_tempo_4 : SF :=
  (sRet (eTup (aCons (eB cTuple (aCons (eVar 2) aNil)) (aCons (eVar 1) aNil))))
def b_plain_tempo : SF :=
  (sSeq c_plain_tempo_0
    (sSeq c_plain_tempo_1
    (sSeq c_plain_tempo_2
    (sSeq c_plain_tempo_3
    c_plain_tempo_4))))
def F_plain_tempo : FF := runF 5 2 b_plain_tempo
def c_l_piece_0 : SF :=
  (sPar 3 4 (aCons (eCall F_l_draw (aCons (eVar 0) (aCons (eOp oIx (eLst (aCons (eC (.int 20)) (aCons (eC (.int 20)) (aCons (eC (.int 60)) aNil)))) (eCall F_l_draw (aCons (eVar 0) (aCons (eC (.int 3)) aNil)))) aNil))) (aCons (eOp oAdd (eC (.int 1)) (eCall F_l_draw (aCons (eVar 0) (aCons (eOp oIx (eLst (aCons (eC (.int 6)) (aCons (eC (.int 16)) aNil))) (eCall F_l_draw (aCons (eVar 0) (aCons (eC (.int 2)) aNil)))) aNil)))) aNil)))
def c_l_piece_1 : SF :=
  (sAsg (.nm 5) (eOp oIx (eLst (aCons (eTup (aCons (eC (.int 0)) (aCons (eC (.int 1)) aNil))) (aCons (eTup (aCons (eC (.int 0)) (aCons (eC (.int 1)) aNil))) (aCons (eCall F_l_low (aCons (eCall F_l_draw (aCons (eVar 0) (aCons (eC (.int 20)) aNil))) (aCons (eOp oAdd (eC (.int 1)) (eCall F_l_draw (aCons (eVar 0) (aCons (eC (.int 4)) aNil)))) aNil))) aNil)))) (eCall F_l_draw (aCons (eVar 0) (aCons (eC (.int 3)) aNil)))))
def c_l_piece_2 : SF :=
  (sAsg (.nm 6) (eCall F_l_low (aCons (eOp oAdd (eC (.int 1)) (eCall F_l_draw (aCons (eVar 0) (aCons (eC (.int 6)) aNil)))) (aCons (eOp oAdd (eC (.int 1)) (eCall F_l_draw (aCons (eVar 0) (aCons (eC (.int 6)) aNil)))) aNil))))
def c_l_piece_3 : SF :=
  (sAsg (.nm 7) (eOp oIx (eLst (aCons (eC (.str "free")) (aCons (eC (.str "bound")) aNil))) (eCall F_l_draw (aCons (eVar 0) (aCons (eC (.int 2)) aNil)))))
def c_l_piece_4 : SF :=
  (sRet (eTup (aCons (eVar 1) (aCons (eVar 2) (aCons (eVar 3) (aCons (eVar 4) (aCons (eVar 7) (aCons (eVar 5) (aCons (eVar 6) (aCons (eCall F_l_shape (aCons (eVar 0) (aCons (eVar 4) aNil))) aNil))))))))))
def b_l_piece : SF :=
  (sSeq c_l_piece_0
    (sSeq c_l_piece_1
    (sSeq c_l_piece_2
    (sSeq c_l_piece_3
    c_l_piece_4))))
def F_l_piece : FF := runF 8 3 b_l_piece
def c_l_long_there_0 : SF :=
  (sAsg (.nm 3) (eOp oIx (eOp oIx (eCall F_l_spans (aCons (eVar 1) (aCons (eVar 2) (aCons (eOp oAdd (eVar 2) (eC (.int 1))) aNil)))) (eC (.int 0))) (eC (.int 1))))
def c_l_long_there_1 : SF :=
  (sIf (tTru (eOp oGe (eB cMaxS (aCons (eVar 3) aNil)) (eOp oPow (eC (.int 10)) (eC (.int 11)))))
    (sAsg (.nm 3) (eOp oIx (eVar 1) (eC (.int 1))))
    sNil)
def c_l_long_there_2 : SF :=
  (sRet (eOp oIx (eLst (aCons (eCall F_l_above (aCons (eVar 0) aNil)) (aCons (eVar 3) (aCons (eOp oIx (eVar 1) (eC (.int 1))) aNil)))) (eCall F_l_draw (aCons (eVar 0) (aCons (eC (.int 3)) aNil)))))
def b_l_long_there : SF :=
  (sSeq c_l_long_there_0
    (sSeq c_l_long_there_1
    c_l_long_there_2))
def F_l_long_there : FF := runF 4 3 b_l_long_there
def c_stretches_ahead_0 : SF :=
  (sRet (eCall F_stretches_between (aCons (eVar 0) (aCons (eC (.int 0)) (aCons (eVar 1) aNil)))))
def b_stretches_ahead : SF :=
  c_stretches_ahead_0
def F_stretches_ahead : FF := runF 2 2 b_stretches_ahead
def c_stretches_behind_0 : SF :=
  (sRet (eCall F_stretches_between (aCons (eVar 0) (aCons (eVar 1) (aCons (eB cMax (aCons (eVar 1) (aCons (eB cSum (aCons (eLc (iSeq (eOp oIx (eVar 0) (eC (.int 0)))) (.nm 2) cYes (eOp oIx (eVar 2) (eC (.int 0))) [2]) aNil)) aNil))) aNil)))))
def b_stretches_behind : SF :=
  c_stretches_behind_0
def F_stretches_behind : FF := runF 3 2 b_stretches_behind
def c_l_sheet_0 : SF :=
  (sAsg (.nm 3) (eLc (iSeq (eCall F_l_names (aCons (eVar 0) (aCons (eOp oAdd (eC (.int 1)) (eCall F_l_draw (aCons (eVar 0) (aCons (eC (.int 3)) aNil)))) aNil)))) (.nm 4) cYes (eCall F_l_take (aCons (eVar 0) (aCons (eVar 4) aNil))) [4]))
def c_l_sheet_1 : SF :=
  (sAsg (.nm 5) (eCall F_l_names (aCons (eVar 0) (aCons (eCall F_l_draw (aCons (eVar 0) (aCons (eOp oAdd (eVar 1) (eC (.int 1))) aNil))) aNil))))
def c_l_sheet_2 : SF :=
  (sAsg (.nm 6) (eLcS (iSeq (eVar 5)) (.nm 4) cYes (eLstS aNil) [4]))
def c_l_sheet_3_0 : SF :=
  (sAsg (.nm 8) (eCall F_l_draw (aCons (eVar 0) (aCons (eB cLen (aCons (eVar 5) aNil)) aNil))))
def c_l_sheet_3_1 : SF :=
  (sAsg (.nm 9) (eCall F_l_piece (aCons (eVar 0) (aCons (eVar 7) (aCons (eOp oIx (eOp oIx (eVar 3) (eCall F_l_draw (aCons (eVar 0) (aCons (eB cLen (aCons (eVar 3) aNil)) aNil)))) (eC (.int 0))) aNil)))))
def c_l_sheet_3_2 : SF :=
  (sExpr (eIns (eOp oIx (eVar 6) (eVar 8)) (eCall F_l_draw (aCons (eVar 0) (aCons (eOp oAdd (eB cLen (aCons (eOp oIx (eVar 6) (eVar 8)) aNil)) (eC (.int 1))) aNil))) (eVar 9)))
def c_l_sheet_3 : SF :=
  (sFor (iSeq (eCall F_l_numbers (aCons (eVar 0) (aCons (eOp oMul (eCall F_l_draw (aCons (eVar 0) (aCons (eOp oAdd (eVar 2) (eC (.int 1))) aNil))) (eB cInt (aCons (eOp oNe (eVar 5) (eLst aNil)) aNil))) aNil)))) (.nm 7)
    (sSeq c_l_sheet_3_0
    (sSeq c_l_sheet_3_1
    c_l_sheet_3_2)))
def c_l_sheet_4 : SF :=
  (sAsg (.nm 10) (eLstS aNil))
def c_l_sheet_5_0 : SF :=
  (sExpr (eApp (eVar 10) (eTup (aCons (eVar 4) (aCons (eCall F_l_from (aCons (eVar 0) aNil)) (aCons (eB cInt (aCons (eOp oEq (eCall F_l_draw (aCons (eVar 0) (aCons (eC (.int 5)) aNil))) (eC (.int 0))) aNil)) (aCons (eB cTuple (aCons (eVar 11) aNil)) aNil)))))))
def c_l_sheet_5 : SF :=
  (sFor (iZip (aCons (eVar 5) (aCons (eVar 6) aNil))) (.tp [(.nm 4), (.nm 11)])
    c_l_sheet_5_0)
def c_l_sheet_6 : SF :=
  (sRet (eTup (aCons (eCall F_l_tempo (aCons (eVar 0) (aCons (eC (.int 3)) aNil))) (aCons (eB cTuple (aCons (eVar 3) aNil)) (aCons (eB cTuple (aCons (eVar 10) aNil)) aNil)))))
def b_l_sheet : SF :=
  (sSeq c_l_sheet_0
    (sSeq c_l_sheet_1
    (sSeq c_l_sheet_2
    (sSeq c_l_sheet_3
    (sSeq c_l_sheet_4
    (sSeq c_l_sheet_5
    c_l_sheet_6))))))
def F_l_sheet : FF := runF 12 3 b_l_sheet
def c_fault_of_0 : SF :=
  (sIf (bNot (tTru (eCall F_is_frame (aCons (eVar 0) aNil))))
    (sRet (eTup (aCons (eC (.str "sheet")) aNil)))
    sNil)
def c_fault_of_1 : SF :=
  (sAsg (.tp [(.nm 1), (.nm 2), (.nm 3)]) (eVar 0))
def c_fault_of_2 : SF :=
  (sIf (bNot (tTru (eCall F_is_tempo (aCons (eVar 1) aNil))))
    (sRet (eTup (aCons (eC (.str "tempo")) aNil)))
    sNil)
def c_fault_of_3 : SF :=
  (sAsg (.nm 4) (eCall F_fault_of_takes (aCons (eVar 2) aNil)))
def c_fault_of_4 : SF :=
  (sIf (tTru (eOp oIs (eVar 4) (eC .non)))
    (sAsg (.nm 4) (eCall F_fault_of_lanes (aCons (eVar 3) aNil)))
    sNil)
def c_fault_of_5 : SF :=
  (sIf (tTru (eOp oIs (eVar 4) (eC .non)))
    (sAsg (.nm 4) (eCall F_fault_of_pieces (aCons (eVar 2) (aCons (eVar 3) aNil))))
    sNil)
def c_fault_of_6 : SF :=
  (sRet (eVar 4))
def b_fault_of : SF :=
  (sSeq c_fault_of_0
    (sSeq c_fault_of_1
    (sSeq c_fault_of_2
    (sSeq c_fault_of_3
    (sSeq c_fault_of_4
    (sSeq c_fault_of_5
    c_fault_of_6))))))
def F_fault_of : FF := runF 5 1 b_fault_of
def c_paced_0 : SF :=
  (sExpr (eCall F_refuse_no_steps (aCons (eVar 1) (aCons (eVar 2) (aCons (eC (.int 200000)) aNil)))))
def c_paced_1 : SF :=
  (sIf (bOr (bNot (tTru (eCall F_is_above_nought (aCons (eVar 3) aNil)))) (bNot (tTru (eCall F_is_above_nought (aCons (eVar 4) aNil)))))
    (sRaise "NoLong")
    sNil)
def c_paced_2 : SF :=
  (sAsg (.tp [(.nm 5), (.nm 6), (.nm 7)]) (eVar 0))
def c_paced_3 : SF :=
  (sAsg (.nm 8) (eOp oAdd (eOp oAdd (eCall F_stretches_ahead (aCons (eVar 5) (aCons (eVar 1) aNil))) (eLst (aCons (eTup (aCons (eOp oSub (eVar 2) (eVar 1)) (aCons (eVar 3) (aCons (eVar 4) aNil)))) aNil))) (eCall F_stretches_behind (aCons (eVar 5) (aCons (eVar 2) aNil)))))
def c_paced_4 : SF :=
  (sRet (eTup (aCons (eCall F_plain_tempo (aCons (eVar 8) (aCons (eOp oIx (eVar 5) (eC (.int 1))) aNil))) (aCons (eVar 6) (aCons (eVar 7) aNil)))))
def b_paced : SF :=
  (sSeq c_paced_0
    (sSeq c_paced_1
    (sSeq c_paced_2
    (sSeq c_paced_3
    c_paced_4))))
def F_paced : FF := runF 9 5 b_paced
def c_refuse_no_sheet_0 : SF :=
  (sIf (tTru (eOp oIsnt (eCall F_fault_of (aCons (eVar 0) aNil)) (eC .non)))
    (sRaise "NoSheet")
    sNil)
def b_refuse_no_sheet : SF :=
  c_refuse_no_sheet_0
def F_refuse_no_sheet : FF := runF 1 1 b_refuse_no_sheet
def c_pace_0 : SF :=
  (sExpr (eCall F_refuse_no_sheet (aCons (eVar 0) aNil)))
def c_pace_1 : SF :=
  (sRet (eCall F_paced (aCons (eVar 0) (aCons (eVar 1) (aCons (eVar 2) (aCons (eVar 3) (aCons (eVar 4) aNil)))))))
def b_pace : SF :=
  (sSeq c_pace_0
    c_pace_1)
def F_pace : FF := runF 5 5 b_pace
def c_l_steps_right_0 : SF :=
  (sAsg (.nm 7) (eLst (aCons (eVar 3) (aCons (eOp oSub (eVar 4) (eC (.int 1))) (aCons (eVar 4) (aCons (eB cMax (aCons (eC (.int 0)) (aCons (eOp oSub (eVar 3) (eC (.int 1))) aNil))) (aCons (eOp oAdd (eVar 3) (eCall F_l_draw (aCons (eVar 0) (aCons (eOp oSub (eVar 4) (eVar 3)) aNil)))) (aCons (eOp oAdd (eVar 4) (eCall F_l_draw (aCons (eVar 0) (aCons (eC (.int 50)) aNil)))) aNil))))))))
def c_l_steps_right_1_0 : SF :=
  (sAsg (.nm 9) (eCall F_l_length (aCons (eVar 1) (aCons (eVar 8) aNil))))
def c_l_steps_right_1_1 : SF :=
  (sIf (tTru (eChain oLe oLt (eVar 3) (eVar 8) (eVar 4)))
    (sAsg (.nm 9) (eCall F_l_line (aCons (eTup (aCons (eOp oSub (eVar 4) (eVar 3)) (aCons (eVar 5) (aCons (eVar 6) aNil)))) (aCons (eOp oAdd (eOp oMul (eC (.int 2)) (eOp oSub (eVar 8) (eVar 3))) (eC (.int 1))) aNil))))
    sNil)
def c_l_steps_right_1_2 : SF :=
  (sIf (bNot (tTru (eCall F_l_same (aCons (eCall F_length_of (aCons (eVar 2) (aCons (eVar 8) aNil))) (aCons (eVar 9) aNil)))))
    (sRet (eC (.bl false)))
    sNil)
def c_l_steps_right_1 : SF :=
  (sFor (iSeq (eOp oAdd (eVar 7) (eLst (aCons (eCall F_l_draw (aCons (eVar 0) (aCons (eOp oAdd (eVar 3) (eC (.int 1))) aNil))) aNil)))) (.nm 8)
    (sSeq c_l_steps_right_1_0
    (sSeq c_l_steps_right_1_1
    c_l_steps_right_1_2)))
def c_l_steps_right_2 : SF :=
  (sRet (eC (.bl true)))
def b_l_steps_right : SF :=
  (sSeq c_l_steps_right_0
    (sSeq c_l_steps_right_1
    c_l_steps_right_2))
def F_l_steps_right : FF := runF 10 7 b_l_steps_right
def c_rested_0 : SF :=
  (sIf (bNot (tTru (eCall F_is_whole_within (aCons (eVar 1) (aCons (eC (.int 0)) (aCons (eC (.int 200000)) aNil))))))
    (sRaise "NoStep")
    sNil)
def c_rested_1 : SF :=
  (sIf (bNot (tTru (eCall F_is_above_nought (aCons (eVar 2) aNil))))
    (sRaise "NoLong")
    sNil)
def c_rested_2 : SF :=
  (sAsg (.tp [(.nm 3), (.nm 4), (.nm 5)]) (eVar 0))
def c_rested_3 : SF :=
  (sRet (eTup (aCons (eCall F_plain_tempo (aCons (eCall F_stretches_ahead (aCons (eVar 3) (aCons (eVar 1) aNil))) (aCons (eVar 2) aNil))) (aCons (eVar 4) (aCons (eVar 5) aNil)))))
def b_rested : SF :=
  (sSeq c_rested_0
    (sSeq c_rested_1
    (sSeq c_rested_2
    c_rested_3)))
def F_rested : FF := runF 6 3 b_rested
def c_rest_from_0 : SF :=
  (sExpr (eCall F_refuse_no_sheet (aCons (eVar 0) aNil)))
def c_rest_from_1 : SF :=
  (sRet (eCall F_rested (aCons (eVar 0) (aCons (eVar 1) (aCons (eVar 2) aNil)))))
def b_rest_from : SF :=
  (sSeq c_rest_from_0
    c_rest_from_1)
def F_rest_from : FF := runF 3 3 b_rest_from
def c_l_right_0 : SF :=
  (sAsg (.nm 4) (eOp oIx (eVar 1) (eC (.int 0))))
def c_l_right_1 : SF :=
  (sAsg (.nm 5) (eCall F_l_joined (aCons (eCall F_l_spans (aCons (eVar 4) (aCons (eC (.int 0)) (aCons (eVar 2) aNil)))) (aCons (eVar 3) aNil))))
def c_l_right_2 : SF :=
  (sAsg (.nm 6) (eCall F_rest_from (aCons (eVar 1) (aCons (eVar 2) (aCons (eVar 3) aNil)))))
def c_l_right_3 : SF :=
  (sIf (bOr (bNot (tTru (eCall F_l_same (aCons (eVar 6) (aCons (eOp oAdd (eTup (aCons (eVar 5) aNil)) (eSl (eVar 1) (pAt (eC (.int 1))) pNo)) aNil))))) (tTru (eOp oIsnt (eCall F_fault_of (aCons (eVar 6) aNil)) (eC .non))))
    (sRet (eC (.bl false)))
    sNil)
def c_l_right_4_0 : SF :=
  (sIf (bNot (tTru (eCall F_l_same (aCons (eCall F_length_of (aCons (eOp oIx (eVar 6) (eC (.int 0))) (aCons (eVar 7) aNil))) (aCons (eVar 3) aNil)))))
    (sRet (eC (.bl false)))
    sNil)
def c_l_right_4 : SF :=
  (sFor (iSeq (eLst (aCons (eVar 2) (aCons (eOp oAdd (eVar 2) (eCall F_l_draw (aCons (eVar 0) (aCons (eC (.int 9000)) aNil)))) (aCons (eOp oPow (eC (.int 10)) (eC (.int 9))) aNil))))) (.nm 7)
    c_l_right_4_0)
def c_l_right_5_0 : SF :=
  (sIf (bAnd (tTru (eOp oLt (eVar 7) (eVar 2))) (bNot (tTru (eCall F_l_same (aCons (eCall F_length_of (aCons (eOp oIx (eVar 6) (eC (.int 0))) (aCons (eVar 7) aNil))) (aCons (eCall F_l_length (aCons (eVar 4) (aCons (eVar 7) aNil))) aNil))))))
    (sRet (eC (.bl false)))
    sNil)
def c_l_right_5 : SF :=
  (sFor (iSeq (eLst (aCons (eB cMax (aCons (eC (.int 0)) (aCons (eOp oSub (eVar 2) (eC (.int 1))) aNil))) (aCons (eCall F_l_draw (aCons (eVar 0) (aCons (eOp oAdd (eVar 2) (eC (.int 1))) aNil))) (aCons (eC (.int 0)) aNil))))) (.nm 7)
    c_l_right_5_0)
def c_l_right_6 : SF :=
  (sRet (eC (.bl true)))
def b_l_right : SF :=
  (sSeq c_l_right_0
    (sSeq c_l_right_1
    (sSeq c_l_right_2
    (sSeq c_l_right_3
    (sSeq c_l_right_4
    (sSeq c_l_right_5
    c_l_right_6))))))
def F_l_right : FF := runF 8 4 b_l_right
def c_l_whole_0 : SF :=
  (sRet (eAnd (eIs (eVar 0) "int") (eNot (eIs (eVar 0) "bool"))))
def b_l_whole : SF :=
  c_l_whole_0
def F_l_whole : FF := runF 1 1 b_l_whole
def c_l_due_0 : SF :=
  (sIf (bOr (bNot (tTru (eIs (eVar 0) "tuple"))) (bOr (tTru (eOp oNe (eB cLen (aCons (eVar 0) aNil)) (eC (.int 2)))) (bOr (bNot (tTru (eCall F_l_whole (aCons (eOp oIx (eVar 0) (eC (.int 0))) aNil)))) (bNot (tTru (eCall F_l_whole (aCons (eOp oIx (eVar 0) (eC (.int 1))) aNil)))))))
    (sRet (eC (.bl false)))
    sNil)
def c_l_due_1 : SF :=
  (sRet (eAnd (eOp oGt (eOp oIx (eVar 0) (eC (.int 1))) (eC (.int 0))) (eOp oEq (eCall F_l_low (aCons (eOp oIx (eVar 0) (eC (.int 0))) (aCons (eOp oIx (eVar 0) (eC (.int 1))) aNil))) (eVar 0))))
def b_l_due : SF :=
  (sSeq c_l_due_0
    c_l_due_1)
def F_l_due : FF := runF 1 1 b_l_due
def c_l_things_0 : SF :=
  (sAsg (.tp [(.nm 2), (.nm 3)]) (eVar 1))
def c_l_things_1 : SF :=
  (sPar 4 5 (aCons (eOp oAdd (eC (.int 2)) (eCall F_l_draw (aCons (eVar 0) (aCons (eC (.int 9)) aNil)))) (aCons (eTup (aCons (eC (.int 1)) (aCons (eC (.int 1)) aNil))) aNil)))
def c_l_things_2_0 : SF :=
  (sAsg (.nm 5) (eOp oIx (eLst (aCons (eTup (aCons (eVar 5) aNil)) (aCons (eLst (aCons (eVar 5) aNil)) (aCons (eDct1 6 5) aNil)))) (eCall F_l_draw (aCons (eVar 0) (aCons (eC (.int 3)) aNil)))))
def c_l_things_2 : SF :=
  (sFor (iRng (aCons (eCall F_l_draw (aCons (eVar 0) (aCons (eC (.int 9)) aNil))) aNil)) (.nm 6)
    c_l_things_2_0)
def c_l_things_3 : SF :=
  (sAsg (.nm 7) (eLstS (aCons (eVar 1) (aCons (eTup (aCons (eOp oMul (eVar 2) (eVar 4)) (aCons (eOp oMul (eVar 3) (eVar 4)) aNil))) (aCons (eTup (aCons (eVar 2) (aCons (eOp oSub (eC (.int 0)) (eVar 3)) aNil))) (aCons (eTup (aCons (eVar 2) (aCons (eC (.int 0)) aNil))) (aCons (eTup (aCons (eC (.int 0)) (aCons (eVar 3) aNil))) (aCons (eTup (aCons (eC (.int 0)) (aCons (eC (.int 1)) aNil))) (aCons (eTup (aCons (eC (.int 0)) (aCons (eVar 4) aNil))) (aCons (eTup (aCons (eC (.int 0)) (aCons (eC (.int 0)) aNil))) (aCons (eTup (aCons (eVar 4) (aCons (eVar 4) aNil))) aNil)))))))))))
def c_l_things_4 : SF :=
  (sAsg (.nm 7) (eOp oAddS (eVar 7) (eLst (aCons (eOp oAdd (eVar 1) (eTup (aCons (eC (.int 1)) aNil))) (aCons (eSl (eVar 1) pNo (pAt (eC (.int 1)))) (aCons (eB cList (aCons (eVar 1) aNil)) (aCons (eVar 2) (aCons (eTup (aCons (eVar 1) aNil)) (aCons (eTup (aCons (eVar 1) (aCons (eC (.int 1)) aNil))) (aCons (eTup (aCons (eVar 1) (aCons (eVar 1) aNil))) (aCons (eTup (aCons (eC (.bl true)) (aCons (eC (.int 1)) aNil))) (aCons (eTup (aCons (eC (.int 1)) (aCons (eC (.bl true)) aNil))) (aCons (eTup (aCons (eC (.bl false)) (aCons (eC (.int 1)) aNil))) aNil)))))))))))))
def c_l_things_5 : SF :=
  (sAsg (.nm 7) (eOp oAddS (eVar 7) (eLst (aCons (eTup (aCons (eB cStr (aCons (eVar 2) aNil)) (aCons (eVar 3) aNil))) (aCons (eTup (aCons (eVar 2) (aCons (eB cStr (aCons (eVar 3) aNil)) aNil))) (aCons (eTup (aCons (eC .non) (aCons (eVar 3) aNil))) (aCons (eTup (aCons (eVar 2) (aCons (eC .non) aNil))) (aCons (eTup (aCons (eVar 2) (aCons (eTup (aCons (eVar 3) aNil)) aNil))) aNil))))))))
def c_l_things_6 : SF :=
  (sExpr (eApp (eVar 7) (eTup (aCons (eLst (aCons (eVar 2) aNil)) (aCons (eVar 3) aNil)))))
def c_l_things_7 : SF :=
  (sAsg (.nm 7) (eOp oAddS (eVar 7) (eLst (aCons (eTup (aCons (eOp oAdd (eVar 2) (eVar 3)) (aCons (eVar 3) aNil))) (aCons (eTup (aCons (eVar 3) (aCons (eC (.int 1)) aNil))) (aCons (eTup (aCons (eC (.int 1)) (aCons (eVar 3) aNil))) (aCons (eTup (aCons (eOp oSub (eC (.int 0)) (eVar 2)) (aCons (eVar 3) aNil))) (aCons (eTup (aCons (eVar 2) (aCons (eC (.int 1)) aNil))) (aCons (eTup (aCons (eVar 2) (aCons (eOp oAdd (eVar 3) (eC (.int 1))) aNil))) aNil)))))))))
def c_l_things_8 : SF :=
  (sRet (eOp oAdd (eVar 7) (eLst (aCons (eVar 5) (aCons (eC .non) (aCons (eC (.bl true)) (aCons (eC (.str "")) (aCons (eC (.str "1/2")) (aCons (eC (.dct [])) (aCons (eDct1 2 3) (aCons (eLst aNil) (aCons (eTup aNil) aNil))))))))))))
def b_l_things : SF :=
  (sSeq c_l_things_0
    (sSeq c_l_things_1
    (sSeq c_l_things_2
    (sSeq c_l_things_3
    (sSeq c_l_things_4
    (sSeq c_l_things_5
    (sSeq c_l_things_6
    (sSeq c_l_things_7
    c_l_things_8))))))))
def F_l_things : FF := runF 8 2 b_l_things
end Fx
set_option Elab.async false
set_option linter.all false
set_option maxRecDepth 100000
namespace Lk03
open PySem L2 DV Fx
def c_law_0 : SF :=
  (sAsg (.nm 1) (eCall F_l_pen (aCons (eVar 0) aNil)))
def c_law_1_0 : SF :=
  (sAsg (.nm 3) (eCall F_l_low (aCons (eCall F_l_number (aCons (eVar 1) aNil)) (aCons (eOr (eCall F_l_number (aCons (eVar 1) aNil)) (eC (.int 1))) aNil))))
def c_law_1_1_0 : SF :=
  (sAsg (.nm 5) (eB cReprQ (aCons (eVar 4) aNil)))
def c_law_1_1_1 : SF :=
  (sAsg (.nm 6) (eLst (aCons (eCall F_is_fraction (aCons (eVar 4) aNil)) (aCons (eCall F_is_fraction (aCons (eVar 4) aNil)) aNil))))
def c_law_1_1_2 : SF :=
  (sIf (bOr (bNot (tTru (eCall F_l_same (aCons (eVar 6) (aCons (eOp oMul (eLst (aCons (eCall F_l_due (aCons (eVar 4) aNil)) aNil)) (eC (.int 2))) aNil))))) (tTru (eOp oNe (eB cReprQ (aCons (eVar 4) aNil)) (eVar 5))))
    (sRet (eC (.bl false)))
    sNil)
def c_law_1_1 : SF :=
  (sFor (iSeq (eCall F_l_things (aCons (eVar 1) (aCons (eVar 3) aNil)))) (.nm 4)
    (sSeq c_law_1_1_0
    (sSeq c_law_1_1_1
    c_law_1_1_2)))
def c_law_1 : SF :=
  (sFor (iRng (aCons (eC (.int 3)) aNil)) (.nm 2)
    (sSeq c_law_1_0
    c_law_1_1))
def c_law_2 : SF :=
  (sRet (eC (.bl true)))
def b_law : SF :=
  (sSeq c_law_0
    (sSeq c_law_1
    c_law_2))
def F_law : FF := runF 7 1 b_law
end Lk03
set_option Elab.async false
set_option linter.all false
set_option maxRecDepth 100000
namespace Lk03
open PySem PySem.Spec PyProof.Rows L2 L2H DV Fx
def top (i : Nat) : Stmt := PySem.Challenge.pw_beatlanes_k03_what_is_a_fraction.main.body.getD i (.Pass ⟨0, 0, 0, 0⟩)
abbrev s_is_fraction : Stmt := top 2
abbrev s_l_pen : Stmt := top 4
abbrev s_l_draw : Stmt := top 5
abbrev s_l_low : Stmt := top 6
abbrev s_l_same : Stmt := top 7
abbrev s_l_whole : Stmt := top 9
abbrev s_l_number : Stmt := top 8
abbrev s_l_due : Stmt := top 10
abbrev s_l_things : Stmt := top 11
abbrev s_law : Stmt := top 12
structure Txt (K : PySem.W.Frag) (mg : Str → Option Value) : Prop where
  z_abs : mg "abs" = none
  z_all : mg "all" = none
  z_bool : mg "bool" = none
  z_int : mg "int" = none
  z_isinstance : mg "isinstance" = none
  z_len : mg "len" = none
  z_list : mg "list" = none
  z_range : mg "range" = none
  z_repr : mg "repr" = none
  z_str : mg "str" = none
  z_tuple : mg "tuple" = none
  z_zip : mg "zip" = none
  m_gcd : mg "gcd" = some (.builtin "math.gcd")
  a_is_fraction : FnAt K mg "is_fraction" s_is_fraction ["thing"]
  a_l_pen : FnAt K mg "_law_pen" s_l_pen ["_law_script"]
  a_l_draw : FnAt K mg "_law_draw" s_l_draw ["_law_pen_here", "_law_many"]
  a_l_low : FnAt K mg "_law_low" s_l_low ["_law_top", "_law_bottom"]
  a_l_same : FnAt K mg "_law_same" s_l_same ["_law_found", "_law_due_here"]
  a_l_whole : FnAt K mg "_law_whole" s_l_whole ["_law_thing"]
  a_l_number : FnAt K mg "_law_number" s_l_number ["_law_pen_here"]
  a_l_due : FnAt K mg "_law_due" s_l_due ["_law_thing"]
  a_l_things : FnAt K mg "_law_things" s_l_things ["_law_pen_here", "_law_one"]
  a_law : FnAt K mg "law" s_law ["_law_script"]
theorem sc_is_fraction : FnScope ["thing", "top", "bottom"] ["thing"] (defScope s_is_fraction) := ⟨rfl, rfl, rfl, by decide +kernel, rfl, by decide +kernel, by decide +kernel⟩
theorem sc_l_pen : FnScope ["_law_script"] ["_law_script"] (defScope s_l_pen) := ⟨rfl, rfl, rfl, by decide +kernel, rfl, by decide +kernel, by decide +kernel⟩
theorem sc_l_draw : FnScope ["_law_pen_here", "_law_many", "_law_found", "_law_at", "_law_cell", "_law_number_here"] ["_law_pen_here", "_law_many"] (defScope s_l_draw) := ⟨rfl, rfl, rfl, by decide +kernel, rfl, by decide +kernel, by decide +kernel⟩
theorem sc_l_low : FnScope ["_law_top", "_law_bottom", "_law_one", "_law_other"] ["_law_top", "_law_bottom"] (defScope s_l_low) := ⟨rfl, rfl, rfl, by decide +kernel, rfl, by decide +kernel, by decide +kernel⟩
theorem sc_l_same : FnScope ["_law_found", "_law_due_here", "_law_one", "_law_other"] ["_law_found", "_law_due_here"] (defScope s_l_same) := ⟨rfl, rfl, rfl, by decide +kernel, rfl, by decide +kernel, by decide +kernel⟩
theorem sc_l_whole : FnScope ["_law_thing"] ["_law_thing"] (defScope s_l_whole) := ⟨rfl, rfl, rfl, by decide +kernel, rfl, by decide +kernel, by decide +kernel⟩
theorem sc_l_number : FnScope ["_law_pen_here", "_law_way", "_law_found", "_law_k"] ["_law_pen_here"] (defScope s_l_number) := ⟨rfl, rfl, rfl, by decide +kernel, rfl, by decide +kernel, by decide +kernel⟩
theorem sc_l_due : FnScope ["_law_thing"] ["_law_thing"] (defScope s_l_due) := ⟨rfl, rfl, rfl, by decide +kernel, rfl, by decide +kernel, by decide +kernel⟩
theorem sc_l_things : FnScope ["_law_pen_here", "_law_one", "_law_top", "_law_bottom", "_law_by", "_law_deep", "_law_k", "_law_some"] ["_law_pen_here", "_law_one"] (defScope s_l_things) := ⟨rfl, rfl, rfl, by decide +kernel, rfl, by decide +kernel, by decide +kernel⟩
theorem sc_law : FnScope ["_law_script", "_law_pen_here", "_law_turn", "_law_one", "_law_thing", "_law_stood", "_law_found"] ["_law_script"] (defScope s_law) := ⟨rfl, rfl, rfl, by decide +kernel, rfl, by decide +kernel, by decide +kernel⟩
section
variable {P : Program} {w : World} {K : PySem.W.Frag} {mg : Str → Option Value} {base : Heap} (T : Txt K mg)
include T
theorem ok_is_fraction : Def P w K mg base "is_fraction" ["thing"] 1 1 F_is_fraction := by
  exact def_okT (k := 0) T.a_is_fraction sc_is_fraction fun f cdv A outer s H E tk po hr =>
    (dss_cons (ds_if (dt_w (dw_or (dt_not (dt_val (de_isi (pe_callB call_isi (by rfl) T.z_isinstance (by decide +kernel) (pa_cons (de_var (pv 0)) (pa_cons (pe_bltn (v := .ty "tuple") (by rfl) T.z_tuple (by decide +kernel) rfl) pa_nil)))))) (dw_or1 (dt_cmp (op_neD hr.units) oNe_ok oEqG_bl (de_callB (pe_callB call_len (by rfl) T.z_len (by decide +kernel) (da_cons (pa_cons (de_var (pv 0)) da_nil))) cLen_ok) de_int))))
    (dss_one (ds_ret de_bl))
    dss_nil)
    (dss_cons (ds_asg (ps_asg (de_var (pv 0)) (dg_tp (ts := [(.nm 1), (.nm 2)]) rfl (dgs_cons (pgs_cons (dg_nm (pg_name (i := 1) sc_is_fraction.nd rfl (Or.inl rfl))) (dgs_cons (pgs_cons (dg_nm (pg_name (i := 2) sc_is_fraction.nd rfl (Or.inl rfl))) dgs_nil)))))))
    (dss_cons (ds_if (dt_w (dw_or (dt_not (dt_val (de_isi (pe_callB call_isi (by rfl) T.z_isinstance (by decide +kernel) (pa_cons (de_var (pv 1)) (pa_cons (pe_bltn (v := .ty "int") (by rfl) T.z_int (by decide +kernel) rfl) pa_nil)))))) (dw_or1 (dt_not (dt_val (de_isi (pe_callB call_isi (by rfl) T.z_isinstance (by decide +kernel) (pa_cons (de_var (pv 2)) (pa_cons (pe_bltn (v := .ty "int") (by rfl) T.z_int (by decide +kernel) rfl) pa_nil)))))))))
    (dss_one (ds_ret de_bl))
    dss_nil)
    (dss_cons (ds_if (dt_w (dw_or (dt_cmp op_isAll oIs_ok oIsG_bl (de_var (pv 1)) de_bl) (dw_or (dt_cmp op_isAll oIs_ok oIsG_bl (de_var (pv 1)) de_bl) (dw_or1 (dt_cmp op_isAll oIs_ok oIsG_bl (de_var (pv 2)) de_bl)))))
    (dss_one (ds_ret de_bl))
    dss_nil)
    (dss_one (ds_ret (de_or (de_cmp (op_eqD hr.units) oEq_ok (de_var (pv 2)) de_int) (de_one (de_and (de_cmp op_gtB oGt_ok (de_var (pv 2)) de_int) (de_one (de_cmp (op_eqD hr.units) oEq_ok (de_callB (pe_callBfun cr_gcd (by rfl) T.m_gcd (da_cons (pa_cons (de_var (pv 1)) (da_cons (pa_cons (de_var (pv 2)) da_nil))))) cGcd_ok) de_int)))))))))))
theorem ok_l_pen : Def P w K mg base "_law_pen" ["_law_script"] 1 1 F_l_pen := by
  exact def_okKT (k := 0) T.a_l_pen sc_l_pen fun f cdv A outer s H E tk po hr =>
    (dss_one (ds_ret (de_lstS (pe_lst (da_cons (pa_cons (de_callB (pe_callTy call_list_of (by rfl) T.z_list (by decide +kernel) (da_cons (pa_cons (de_ro (de_var (pv 0)) do_no (do_at de_int)) da_nil))) cList_ok) (da_cons (pa_cons de_int (da_cons (pa_cons de_int da_nil))))))))))
theorem ok_l_draw : Def P w K mg base "_law_draw" ["_law_pen_here", "_law_many"] 1 2 F_l_draw := by
  exact def_okT (k := 0) T.a_l_draw sc_l_draw fun f cdv A outer s H E tk po hr =>
    (dss_cons (ds_if (dt_cmp op_gtB oGt_ok oGt_bl (de_ix (de_var (pv 0)) de_int) de_int)
    (dss_cons (ds_asg (ps_asg (de_op op_mod oMod_ok (de_ix (de_var (pv 0)) de_int) (de_var (pv 1))) (dg_nm (pg_name (i := 2) sc_l_draw.nd rfl (Or.inl rfl)))))
    (dss_cons (ds_sub (ps_asg (de_op op_fdivQ oDiv_ok (de_ix (de_var (pv 0)) de_int) (de_var (pv 1))) (pg_sub (de_var (pv 0)) de_int set_list)))
    (dss_one (ds_ret (de_var (pv 2))))))
    dss_nil)
    (dss_cons (ds_asg (ps_asg (de_ix (de_var (pv 0)) de_int) (dg_nm (pg_name (i := 3) sc_l_draw.nd rfl (Or.inl rfl)))))
    (dss_cons (ds_sub (ps_asg (de_op op_addAll oAdd_ok (de_var (pv 3)) de_int) (pg_sub (de_var (pv 0)) de_int set_list)))
    (dss_cons (ds_asg (ps_asg de_int (dg_nm (pg_name (i := 4) sc_l_draw.nd rfl (Or.inl rfl)))))
    (dss_cons (ds_if (dt_cmp op_gtB oGt_ok oGt_bl (de_callB (pe_callB call_len (by rfl) T.z_len (by decide +kernel) (da_cons (pa_cons (de_ix (de_var (pv 0)) de_int) da_nil))) cLen_ok) de_int)
    (dss_one (ds_asg (ps_asg (de_ix (de_ix (de_var (pv 0)) de_int) (de_op op_mod oMod_ok (de_var (pv 3)) (de_callB (pe_callB call_len (by rfl) T.z_len (by decide +kernel) (da_cons (pa_cons (de_ix (de_var (pv 0)) de_int) da_nil))) cLen_ok))) (dg_nm (pg_name (i := 4) sc_l_draw.nd rfl (Or.inl rfl))))))
    dss_nil)
    (dss_cons (ds_if (dt_w (dw_and (dt_cmp op_lt oLt_ok oLt_bl (de_var (pv 3)) (de_callB (pe_callB call_len (by rfl) T.z_len (by decide +kernel) (da_cons (pa_cons (de_ix (de_var (pv 0)) de_int) da_nil))) cLen_ok)) (dw_and1 (dt_cmp op_ge oGe_ok oGe_bl (de_var (pv 4)) (de_op op_pow oPow_ok de_int de_int)))))
    (dss_cons (ds_sub (ps_asg (de_op op_fdivQ oDiv_ok (de_var (pv 4)) (de_var (pv 1))) (pg_sub (de_var (pv 0)) de_int set_list)))
    (dss_one (ds_ret (de_op op_mod oMod_ok (de_var (pv 4)) (de_var (pv 1))))))
    dss_nil)
    (dss_cons (ds_asg (ps_asg (de_op op_mod oMod_ok (de_op op_mulAll oMul_ok (de_op op_addAll oAdd_ok (de_op op_mod oMod_ok (de_var (pv 4)) de_int) de_int) (de_op op_addAll oAdd_ok (de_op op_addAll oAdd_ok (de_op op_mulAll oMul_ok (de_var (pv 3)) (de_var (pv 3))) (de_op op_mulAll oMul_ok de_int (de_var (pv 3)))) de_int)) de_int) (dg_nm (pg_name (i := 5) sc_l_draw.nd rfl (Or.inl rfl)))))
    (dss_cons (ds_asg (ps_asg (de_op op_mod oMod_ok (de_op op_mulAll oMul_ok (de_op op_mod oMod_ok (de_op op_addAll oAdd_ok (de_op op_pow oPow_ok (de_var (pv 5)) de_int) (de_op op_mulAll oMul_ok de_int (de_var (pv 3)))) de_int) de_int) de_int) (dg_nm (pg_name (i := 5) sc_l_draw.nd rfl (Or.inl rfl)))))
    (dss_cons (ds_if (dt_cmp op_gtB oGt_ok oGt_bl (de_var (pv 1)) (de_op op_pow oPow_ok de_int de_int))
    (dss_one (ds_asg (ps_asg (de_op op_addAll oAdd_ok (de_op op_mulAll oMul_ok (de_var (pv 5)) de_int) (de_op op_mod oMod_ok (de_op op_mulAll oMul_ok (de_op op_mod oMod_ok (de_var (pv 5)) de_int) de_int) de_int)) (dg_nm (pg_name (i := 5) sc_l_draw.nd rfl (Or.inl rfl))))))
    dss_nil)
    (dss_one (ds_ret (de_op op_mod oMod_ok (de_op op_fdivQ oDiv_ok (de_var (pv 5)) de_int) (de_var (pv 1))))))))))))))
theorem ok_l_low : Def P w K mg base "_law_low" ["_law_top", "_law_bottom"] 1 2 F_l_low := by
  exact def_okT (k := 0) T.a_l_low sc_l_low fun f cdv A outer s H E tk po hr =>
    (dss_cons (ds_par (ps_par (i := 2) (j := 3) rfl sc_l_low.nd rfl rfl (by decide) rfl rfl (da_cons (pa_cons (de_callB (pe_callB call_abs (by rfl) T.z_abs (by decide +kernel) (da_cons (pa_cons (de_var (pv 0)) da_nil))) cAbs_ok) (da_cons (pa_cons (de_callB (pe_callB call_abs (by rfl) T.z_abs (by decide +kernel) (da_cons (pa_cons (de_var (pv 1)) da_nil))) cAbs_ok) da_nil)))) (by rfl)))
    (dss_cons (ds_while (fuel := fu_l_low_0) (ps_while po (dt_cmp op_gtB oGt_ok oGt_bl (de_var (pv 3)) de_int)
    (dss_one (ds_par (ps_par (i := 2) (j := 3) rfl sc_l_low.nd rfl rfl (by decide) rfl rfl (da_cons (pa_cons (de_var (pv 3)) (da_cons (pa_cons (de_op op_mod oMod_ok (de_var (pv 2)) (de_var (pv 3))) da_nil)))) (by rfl))))))
    (dss_cons (ds_if (dt_cmp op_lt oLt_ok oLt_bl (de_var (pv 1)) de_int)
    (dss_one (ds_par (ps_par (i := 0) (j := 1) rfl sc_l_low.nd rfl rfl (by decide) rfl rfl (da_cons (pa_cons (de_op op_sub oSub_ok de_int (de_var (pv 0))) (da_cons (pa_cons (de_op op_sub oSub_ok de_int (de_var (pv 1))) da_nil)))) (by rfl))))
    dss_nil)
    (dss_one (ds_ret (de_tup (pe_tup (da_cons (pa_cons (de_op op_fdivQ oDiv_ok (de_var (pv 0)) (de_var (pv 2))) (da_cons (pa_cons (de_op op_fdivQ oDiv_ok (de_var (pv 1)) (de_var (pv 2))) da_nil)))))))))))
theorem rec_l_same : ∀ d : Nat, Def P w K mg base "_law_same" ["_law_found", "_law_due_here"] (1 + d) 2 (R_l_same d)
  | 0 => def_no T.a_l_same rfl
  | d + 1 => by
    have d_l_same := rec_l_same d
    exact def_okT (k := 1 + d) T.a_l_same sc_l_same fun f cdv A outer s H E tk po hr =>
    (dss_cons (ds_if (dt_val (de_isi2 (pe_callB call_isiT (by rfl) T.z_isinstance (by decide +kernel) (pa_cons (de_var (pv 1)) (pa_cons (pe_tup (pa_cons (pe_bltn (v := .ty "tuple") (by rfl) T.z_tuple (by decide +kernel) rfl) (pa_cons (pe_bltn (v := .ty "list") (by rfl) T.z_list (by decide +kernel) rfl) pa_nil))) pa_nil)))))
    (dss_cons (ds_if (dt_w (dw_or (dt_not (dt_val (de_isi2 (pe_callB call_isiT (by rfl) T.z_isinstance (by decide +kernel) (pa_cons (de_var (pv 0)) (pa_cons (pe_tup (pa_cons (pe_bltn (v := .ty "tuple") (by rfl) T.z_tuple (by decide +kernel) rfl) (pa_cons (pe_bltn (v := .ty "list") (by rfl) T.z_list (by decide +kernel) rfl) pa_nil))) pa_nil)))))) (dw_or1 (dt_cmp (op_neD hr.units) oNe_ok oEqG_bl (de_isi (pe_callB call_isi (by rfl) T.z_isinstance (by decide +kernel) (pa_cons (de_var (pv 0)) (pa_cons (pe_bltn (v := .ty "list") (by rfl) T.z_list (by decide +kernel) rfl) pa_nil)))) (de_isi (pe_callB call_isi (by rfl) T.z_isinstance (by decide +kernel) (pa_cons (de_var (pv 1)) (pa_cons (pe_bltn (v := .ty "list") (by rfl) T.z_list (by decide +kernel) rfl) pa_nil))))))))
    (dss_one (ds_ret de_bl))
    dss_nil)
    (dss_cons (ds_if (dt_cmp (op_neD hr.units) oNe_ok oEqG_bl (de_callB (pe_callB call_len (by rfl) T.z_len (by decide +kernel) (da_cons (pa_cons (de_var (pv 0)) da_nil))) cLen_ok) (de_callB (pe_callB call_len (by rfl) T.z_len (by decide +kernel) (da_cons (pa_cons (de_var (pv 1)) da_nil))) cLen_ok))
    (dss_one (ds_ret de_bl))
    dss_nil)
    (dss_one (ds_ret (de_callB (pe_callB (cr_all rfl) (by rfl) T.z_all (by decide +kernel) (da_cons (pa_cons (de_lc (own' := [("_law_one", 2), ("_law_other", 3)]) (pe_lc (own := [("_law_one", 2), ("_law_other", 3)]) rfl sc_l_same.nd (di_zip (RZ.pi_zipA (by rfl) T.z_zip (da_cons (pa_cons (de_var (pv 0)) (da_cons (pa_cons (de_var (pv 1)) da_nil)))))) (blkOk_by (N := ["_law_found", "_law_due_here", "_law_one", "_law_other"]) (sc := defScope s_l_same) (by decide +kernel)) (fun _ _ _ _ _ => (dg_tp (ts := [(.nm 2), (.nm 3)]) rfl (dgs_cons (pgs_cons (dg_nm (pg_name (i := 2) sc_l_same.nd rfl (Or.inl rfl))) (dgs_cons (pgs_cons (dg_nm (pg_name (i := 3) sc_l_same.nd rfl (Or.inl rfl))) dgs_nil)))))) (fun _ _ _ _ _ => dts_nil) (fun _ _ _ _ _ => (de_callD d_l_same hr takes0 (by omega) (by rfl) (da_cons (pa_cons (de_var (pv 2)) (da_cons (pa_cons (de_var (pv 3)) da_nil)))) (aLen_cons (aLen_cons aLen_nil))))) (by decide)) da_nil))) cAll_ok)))))
    dss_nil)
    (dss_cons (ds_if (dt_w (dw_or (dt_cmp op_isAll oIs_ok oIsG_bl (de_var (pv 1)) de_non) (dw_or1 (dt_cmp op_isAll oIs_ok oIsG_bl (de_var (pv 0)) de_non))))
    (dss_one (ds_ret (de_and (de_cmp op_isAll oIs_ok (de_var (pv 0)) de_non) (de_one (de_cmp op_isAll oIs_ok (de_var (pv 1)) de_non)))))
    dss_nil)
    (dss_cons (ds_if (dt_w (dw_or (dt_cmp (op_neD hr.units) oNe_ok oEqG_bl (de_isi (pe_callB call_isi (by rfl) T.z_isinstance (by decide +kernel) (pa_cons (de_var (pv 0)) (pa_cons (pe_bltn (v := .ty "bool") (by rfl) T.z_bool (by decide +kernel) rfl) pa_nil)))) (de_isi (pe_callB call_isi (by rfl) T.z_isinstance (by decide +kernel) (pa_cons (de_var (pv 1)) (pa_cons (pe_bltn (v := .ty "bool") (by rfl) T.z_bool (by decide +kernel) rfl) pa_nil))))) (dw_or1 (dt_cmp (op_neD hr.units) oNe_ok oEqG_bl (de_isi (pe_callB call_isi (by rfl) T.z_isinstance (by decide +kernel) (pa_cons (de_var (pv 0)) (pa_cons (pe_bltn (v := .ty "str") (by rfl) T.z_str (by decide +kernel) rfl) pa_nil)))) (de_isi (pe_callB call_isi (by rfl) T.z_isinstance (by decide +kernel) (pa_cons (de_var (pv 1)) (pa_cons (pe_bltn (v := .ty "str") (by rfl) T.z_str (by decide +kernel) rfl) pa_nil))))))))
    (dss_one (ds_ret de_bl))
    dss_nil)
    (dss_cons (ds_if (dt_cmp (op_neD hr.units) oNe_ok oEqG_bl (de_isi (pe_callB call_isi (by rfl) T.z_isinstance (by decide +kernel) (pa_cons (de_var (pv 0)) (pa_cons (pe_bltn (v := .ty "int") (by rfl) T.z_int (by decide +kernel) rfl) pa_nil)))) (de_isi (pe_callB call_isi (by rfl) T.z_isinstance (by decide +kernel) (pa_cons (de_var (pv 1)) (pa_cons (pe_bltn (v := .ty "int") (by rfl) T.z_int (by decide +kernel) rfl) pa_nil)))))
    (dss_one (ds_ret de_bl))
    dss_nil)
    (dss_one (ds_ret (de_cmp (op_eqD hr.units) oEq_ok (de_var (pv 0)) (de_var (pv 1)))))))))
theorem ok_l_same : Def P w K mg base "_law_same" ["_law_found", "_law_due_here"] 13 2 F_l_same := rec_l_same T 12
theorem ok_l_whole : Def P w K mg base "_law_whole" ["_law_thing"] 1 1 F_l_whole := by
  exact def_okT (k := 0) T.a_l_whole sc_l_whole fun f cdv A outer s H E tk po hr =>
    (dss_one (ds_ret (de_and (de_isi (pe_callB call_isi (by rfl) T.z_isinstance (by decide +kernel) (pa_cons (de_var (pv 0)) (pa_cons (pe_bltn (v := .ty "int") (by rfl) T.z_int (by decide +kernel) rfl) pa_nil)))) (de_one (de_not (de_isi (pe_callB call_isi (by rfl) T.z_isinstance (by decide +kernel) (pa_cons (de_var (pv 0)) (pa_cons (pe_bltn (v := .ty "bool") (by rfl) T.z_bool (by decide +kernel) rfl) pa_nil)))))))))
theorem ok_l_number : Def P w K mg base "_law_number" ["_law_pen_here"] 2 1 F_l_number := by
  have d_l_draw := ok_l_draw T (P := P) (w := w) (base := base)
  exact def_okT (k := 1) T.a_l_number sc_l_number fun f cdv A outer s H E tk po hr =>
    (dss_cons (ds_par (ps_par (i := 1) (j := 2) rfl sc_l_number.nd rfl rfl (by decide) rfl rfl (da_cons (pa_cons (de_callD d_l_draw hr tk (by decide) (by rfl) (da_cons (pa_cons (de_var (pv 0)) (da_cons (pa_cons de_int da_nil)))) (aLen_cons (aLen_cons aLen_nil))) (da_cons (pa_cons (de_callD d_l_draw hr tk (by decide) (by rfl) (da_cons (pa_cons (de_var (pv 0)) (da_cons (pa_cons de_int da_nil)))) (aLen_cons (aLen_cons aLen_nil))) da_nil)))) (by rfl)))
    (dss_cons (ds_if (dt_cmp (op_eqD hr.units) oEq_ok oEqG_bl (de_var (pv 1)) de_int)
    (dss_one (ds_asg (ps_asg (de_callD d_l_draw hr tk (by decide) (by rfl) (da_cons (pa_cons (de_var (pv 0)) (da_cons (pa_cons (de_op op_pow oPow_ok de_int de_int) da_nil)))) (aLen_cons (aLen_cons aLen_nil))) (dg_nm (pg_name (i := 2) sc_l_number.nd rfl (Or.inl rfl))))))
    dss_nil)
    (dss_cons (ds_if (dt_cmp (op_eqD hr.units) oEq_ok oEqG_bl (de_var (pv 1)) de_int)
    (dss_one (ds_asg (ps_asg (de_op op_sub oSub_ok (de_op op_sub oSub_ok (de_op op_pow oPow_ok de_int de_int) de_int) (de_callD d_l_draw hr tk (by decide) (by rfl) (da_cons (pa_cons (de_var (pv 0)) (da_cons (pa_cons de_int da_nil)))) (aLen_cons (aLen_cons aLen_nil)))) (dg_nm (pg_name (i := 2) sc_l_number.nd rfl (Or.inl rfl))))))
    dss_nil)
    (dss_cons (ds_if (dt_cmp (op_eqD hr.units) oEq_ok oEqG_bl (de_var (pv 1)) de_int)
    (dss_one (ds_for (ps_for po rfl (di_rng1 (pi_range1 (by rfl) T.z_range (da_cons (pa_cons de_int da_nil))) (aLen_cons aLen_nil)) (dg_nm (pg_name (i := 3) sc_l_number.nd rfl (Or.inl rfl)))
    (dss_one (ds_asg (ps_asg (de_op op_addAll oAdd_ok (de_op op_mulAll oMul_ok (de_op op_mod oMod_ok (de_var (pv 2)) (de_op op_pow oPow_ok de_int de_int)) (de_op op_pow oPow_ok de_int de_int)) (de_callD d_l_draw hr tk (by decide) (by rfl) (da_cons (pa_cons (de_var (pv 0)) (da_cons (pa_cons (de_op op_pow oPow_ok de_int de_int) da_nil)))) (aLen_cons (aLen_cons aLen_nil)))) (dg_nm (pg_name (i := 2) sc_l_number.nd rfl (Or.inl rfl)))))))))
    dss_nil)
    (dss_one (ds_ret (de_op op_mulAll oMul_ok (de_var (pv 2)) (de_ix (de_lst (pe_lst (da_cons (pa_cons de_int (da_cons (pa_cons (de_neg de_int) da_nil)))))) (de_callD d_l_draw hr tk (by decide) (by rfl) (da_cons (pa_cons (de_var (pv 0)) (da_cons (pa_cons de_int da_nil)))) (aLen_cons (aLen_cons aLen_nil)))))))))))
theorem ok_l_due : Def P w K mg base "_law_due" ["_law_thing"] 2 1 F_l_due := by
  have d_l_low := ok_l_low T (P := P) (w := w) (base := base)
  have d_l_whole := ok_l_whole T (P := P) (w := w) (base := base)
  exact def_okT (k := 1) T.a_l_due sc_l_due fun f cdv A outer s H E tk po hr =>
    (dss_cons (ds_if (dt_w (dw_or (dt_not (dt_val (de_isi (pe_callB call_isi (by rfl) T.z_isinstance (by decide +kernel) (pa_cons (de_var (pv 0)) (pa_cons (pe_bltn (v := .ty "tuple") (by rfl) T.z_tuple (by decide +kernel) rfl) pa_nil)))))) (dw_or (dt_cmp (op_neD hr.units) oNe_ok oEqG_bl (de_callB (pe_callB call_len (by rfl) T.z_len (by decide +kernel) (da_cons (pa_cons (de_var (pv 0)) da_nil))) cLen_ok) de_int) (dw_or (dt_not (dt_val (de_callD d_l_whole hr tk (by decide) (by rfl) (da_cons (pa_cons (de_ix (de_var (pv 0)) de_int) da_nil)) (aLen_cons aLen_nil)))) (dw_or1 (dt_not (dt_val (de_callD d_l_whole hr tk (by decide) (by rfl) (da_cons (pa_cons (de_ix (de_var (pv 0)) de_int) da_nil)) (aLen_cons aLen_nil)))))))))
    (dss_one (ds_ret de_bl))
    dss_nil)
    (dss_one (ds_ret (de_and (de_cmp op_gtB oGt_ok (de_ix (de_var (pv 0)) de_int) de_int) (de_one (de_cmp (op_eqD hr.units) oEq_ok (de_callD d_l_low hr tk (by decide) (by rfl) (da_cons (pa_cons (de_ix (de_var (pv 0)) de_int) (da_cons (pa_cons (de_ix (de_var (pv 0)) de_int) da_nil)))) (aLen_cons (aLen_cons aLen_nil))) (de_var (pv 0))))))))
theorem ok_l_things : Def P w K mg base "_law_things" ["_law_pen_here", "_law_one"] 2 2 F_l_things := by
  have d_l_draw := ok_l_draw T (P := P) (w := w) (base := base)
  exact def_okT (k := 1) T.a_l_things sc_l_things fun f cdv A outer s H E tk po hr =>
    (dss_cons (ds_asg (ps_asg (de_var (pv 1)) (dg_tp (ts := [(.nm 2), (.nm 3)]) rfl (dgs_cons (pgs_cons (dg_nm (pg_name (i := 2) sc_l_things.nd rfl (Or.inl rfl))) (dgs_cons (pgs_cons (dg_nm (pg_name (i := 3) sc_l_things.nd rfl (Or.inl rfl))) dgs_nil)))))))
    (dss_cons (ds_par (ps_par (i := 4) (j := 5) rfl sc_l_things.nd rfl rfl (by decide) rfl rfl (da_cons (pa_cons (de_op op_addAll oAdd_ok de_int (de_callD d_l_draw hr tk (by decide) (by rfl) (da_cons (pa_cons (de_var (pv 0)) (da_cons (pa_cons de_int da_nil)))) (aLen_cons (aLen_cons aLen_nil)))) (da_cons (pa_cons (de_tup (pe_tup (da_cons (pa_cons de_int (da_cons (pa_cons de_int da_nil)))))) da_nil)))) (by rfl)))
    (dss_cons (ds_for (ps_for po rfl (di_rng1 (pi_range1 (by rfl) T.z_range (da_cons (pa_cons (de_callD d_l_draw hr tk (by decide) (by rfl) (da_cons (pa_cons (de_var (pv 0)) (da_cons (pa_cons de_int da_nil)))) (aLen_cons (aLen_cons aLen_nil))) da_nil))) (aLen_cons aLen_nil)) (dg_nm (pg_name (i := 6) sc_l_things.nd rfl (Or.inl rfl)))
    (dss_one (ds_asg (ps_asg (de_ix (de_lst (pe_lst (da_cons (pa_cons (de_tup (pe_tup (da_cons (pa_cons (de_var (pv 5)) da_nil)))) (da_cons (pa_cons (de_lst (pe_lst (da_cons (pa_cons (de_var (pv 5)) da_nil)))) (da_cons (pa_cons (de_dct1 (pv 6) (pv 5)) da_nil)))))))) (de_callD d_l_draw hr tk (by decide) (by rfl) (da_cons (pa_cons (de_var (pv 0)) (da_cons (pa_cons de_int da_nil)))) (aLen_cons (aLen_cons aLen_nil)))) (dg_nm (pg_name (i := 5) sc_l_things.nd rfl (Or.inl rfl))))))))
    (dss_cons (ds_asg (ps_asg (de_lstS (pe_lst (da_cons (pa_cons (de_var (pv 1)) (da_cons (pa_cons (de_tup (pe_tup (da_cons (pa_cons (de_op op_mulAll oMul_ok (de_var (pv 2)) (de_var (pv 4))) (da_cons (pa_cons (de_op op_mulAll oMul_ok (de_var (pv 3)) (de_var (pv 4))) da_nil)))))) (da_cons (pa_cons (de_tup (pe_tup (da_cons (pa_cons (de_var (pv 2)) (da_cons (pa_cons (de_op op_sub oSub_ok de_int (de_var (pv 3))) da_nil)))))) (da_cons (pa_cons (de_tup (pe_tup (da_cons (pa_cons (de_var (pv 2)) (da_cons (pa_cons de_int da_nil)))))) (da_cons (pa_cons (de_tup (pe_tup (da_cons (pa_cons de_int (da_cons (pa_cons (de_var (pv 3)) da_nil)))))) (da_cons (pa_cons (de_tup (pe_tup (da_cons (pa_cons de_int (da_cons (pa_cons de_int da_nil)))))) (da_cons (pa_cons (de_tup (pe_tup (da_cons (pa_cons de_int (da_cons (pa_cons (de_var (pv 4)) da_nil)))))) (da_cons (pa_cons (de_tup (pe_tup (da_cons (pa_cons de_int (da_cons (pa_cons de_int da_nil)))))) (da_cons (pa_cons (de_tup (pe_tup (da_cons (pa_cons (de_var (pv 4)) (da_cons (pa_cons (de_var (pv 4)) da_nil)))))) da_nil)))))))))))))))))))) (dg_nm (pg_name (i := 7) sc_l_things.nd rfl (Or.inl rfl)))))
    (dss_cons (ds_asg (ps_asg (de_op op_addAll oAddS_ok (de_var (pv 7)) (de_lst (pe_lst (da_cons (pa_cons (de_op op_addAll oAdd_ok (de_var (pv 1)) (de_tup (pe_tup (da_cons (pa_cons de_int da_nil))))) (da_cons (pa_cons (de_sl (de_var (pv 1)) do_no (do_at de_int)) (da_cons (pa_cons (de_callB (pe_callTy call_list_of (by rfl) T.z_list (by decide +kernel) (da_cons (pa_cons (de_var (pv 1)) da_nil))) cList_ok) (da_cons (pa_cons (de_var (pv 2)) (da_cons (pa_cons (de_tup (pe_tup (da_cons (pa_cons (de_var (pv 1)) da_nil)))) (da_cons (pa_cons (de_tup (pe_tup (da_cons (pa_cons (de_var (pv 1)) (da_cons (pa_cons de_int da_nil)))))) (da_cons (pa_cons (de_tup (pe_tup (da_cons (pa_cons (de_var (pv 1)) (da_cons (pa_cons (de_var (pv 1)) da_nil)))))) (da_cons (pa_cons (de_tup (pe_tup (da_cons (pa_cons de_bl (da_cons (pa_cons de_int da_nil)))))) (da_cons (pa_cons (de_tup (pe_tup (da_cons (pa_cons de_int (da_cons (pa_cons de_bl da_nil)))))) (da_cons (pa_cons (de_tup (pe_tup (da_cons (pa_cons de_bl (da_cons (pa_cons de_int da_nil)))))) da_nil))))))))))))))))))))))) (dg_nm (pg_name (i := 7) sc_l_things.nd rfl (Or.inl rfl)))))
    (dss_cons (ds_asg (ps_asg (de_op op_addAll oAddS_ok (de_var (pv 7)) (de_lst (pe_lst (da_cons (pa_cons (de_tup (pe_tup (da_cons (pa_cons (de_callB (pe_callTy call_str_int (by rfl) T.z_str (by decide +kernel) (da_cons (pa_cons (de_var (pv 2)) da_nil))) cStr_ok) (da_cons (pa_cons (de_var (pv 3)) da_nil)))))) (da_cons (pa_cons (de_tup (pe_tup (da_cons (pa_cons (de_var (pv 2)) (da_cons (pa_cons (de_callB (pe_callTy call_str_int (by rfl) T.z_str (by decide +kernel) (da_cons (pa_cons (de_var (pv 3)) da_nil))) cStr_ok) da_nil)))))) (da_cons (pa_cons (de_tup (pe_tup (da_cons (pa_cons de_non (da_cons (pa_cons (de_var (pv 3)) da_nil)))))) (da_cons (pa_cons (de_tup (pe_tup (da_cons (pa_cons (de_var (pv 2)) (da_cons (pa_cons de_non da_nil)))))) (da_cons (pa_cons (de_tup (pe_tup (da_cons (pa_cons (de_var (pv 2)) (da_cons (pa_cons (de_tup (pe_tup (da_cons (pa_cons (de_var (pv 3)) da_nil)))) da_nil)))))) da_nil))))))))))))) (dg_nm (pg_name (i := 7) sc_l_things.nd rfl (Or.inl rfl)))))
    (dss_cons (ds_expr (ps_expr (de_app (pe_bm PySem.F.plainAttrs_list PySem.F.slot_list_append PySem.F.type_list_append mt_append (de_var (pv 7)) (pa_cons (de_tup (pe_tup (da_cons (pa_cons (de_lst (pe_lst (da_cons (pa_cons (de_var (pv 2)) da_nil)))) (da_cons (pa_cons (de_var (pv 3)) da_nil)))))) pa_nil)))))
    (dss_cons (ds_asg (ps_asg (de_op op_addAll oAddS_ok (de_var (pv 7)) (de_lst (pe_lst (da_cons (pa_cons (de_tup (pe_tup (da_cons (pa_cons (de_op op_addAll oAdd_ok (de_var (pv 2)) (de_var (pv 3))) (da_cons (pa_cons (de_var (pv 3)) da_nil)))))) (da_cons (pa_cons (de_tup (pe_tup (da_cons (pa_cons (de_var (pv 3)) (da_cons (pa_cons de_int da_nil)))))) (da_cons (pa_cons (de_tup (pe_tup (da_cons (pa_cons de_int (da_cons (pa_cons (de_var (pv 3)) da_nil)))))) (da_cons (pa_cons (de_tup (pe_tup (da_cons (pa_cons (de_op op_sub oSub_ok de_int (de_var (pv 2))) (da_cons (pa_cons (de_var (pv 3)) da_nil)))))) (da_cons (pa_cons (de_tup (pe_tup (da_cons (pa_cons (de_var (pv 2)) (da_cons (pa_cons de_int da_nil)))))) (da_cons (pa_cons (de_tup (pe_tup (da_cons (pa_cons (de_var (pv 2)) (da_cons (pa_cons (de_op op_addAll oAdd_ok (de_var (pv 3)) de_int) da_nil)))))) da_nil))))))))))))))) (dg_nm (pg_name (i := 7) sc_l_things.nd rfl (Or.inl rfl)))))
    (dss_one (ds_ret (de_op op_addAll oAdd_ok (de_var (pv 7)) (de_lst (pe_lst (da_cons (pa_cons (de_var (pv 5)) (da_cons (pa_cons de_non (da_cons (pa_cons de_bl (da_cons (pa_cons de_str (da_cons (pa_cons de_str (da_cons (pa_cons de_dct0 (da_cons (pa_cons (de_dct1 (pv 2) (pv 3)) (da_cons (pa_cons (de_lst (pe_lst da_nil)) (da_cons (pa_cons (de_tup (pe_tup da_nil)) da_nil)))))))))))))))))))))))))))))))
theorem ok_law {a : Addr} {fd : FuncData} (A : Fun K "law" "law" s_law a fd) : FnW (RoomG 14) P w K mg base (L2.CX P w) a fd ["_law_script"] (spF K ⟨mg, P, w⟩ 1 F_law) := by
  have d_is_fraction := ok_is_fraction T (P := P) (w := w) (base := base)
  have d_l_pen := ok_l_pen T (P := P) (w := w) (base := base)
  have d_l_low := ok_l_low T (P := P) (w := w) (base := base)
  have d_l_same := ok_l_same T (P := P) (w := w) (base := base)
  have d_l_number := ok_l_number T (P := P) (w := w) (base := base)
  have d_l_due := ok_l_due T (P := P) (w := w) (base := base)
  have d_l_things := ok_l_things T (P := P) (w := w) (base := base)
  exact fnG_okG (k := 13) A sc_law fun cdv A outer s H E tk po hg hr =>
    (dss_cons (ds_asg (ps_asg (de_callD d_l_pen hr tk (by decide) (by rfl) (da_cons (pa_cons (de_var (pv 0)) da_nil)) (aLen_cons aLen_nil)) (dg_nm (pg_name (i := 1) sc_law.nd rfl (Or.inl rfl)))))
    (dss_cons (ds_for (ps_for po rfl (di_rng1 (pi_range1 (by rfl) T.z_range (da_cons (pa_cons de_int da_nil))) (aLen_cons aLen_nil)) (dg_nm (pg_name (i := 2) sc_law.nd rfl (Or.inl rfl)))
    (dss_cons (ds_asg (ps_asg (de_callD d_l_low hr tk (by decide) (by rfl) (da_cons (pa_cons (de_callD d_l_number hr tk (by decide) (by rfl) (da_cons (pa_cons (de_var (pv 1)) da_nil)) (aLen_cons aLen_nil)) (da_cons (pa_cons (de_or (de_callD d_l_number hr tk (by decide) (by rfl) (da_cons (pa_cons (de_var (pv 1)) da_nil)) (aLen_cons aLen_nil)) (de_one de_int)) da_nil)))) (aLen_cons (aLen_cons aLen_nil))) (dg_nm (pg_name (i := 3) sc_law.nd rfl (Or.inl rfl)))))
    (dss_one (ds_for (ps_for po rfl (di_seq (de_callD d_l_things hr tk (by decide) (by rfl) (da_cons (pa_cons (de_var (pv 1)) (da_cons (pa_cons (de_var (pv 3)) da_nil)))) (aLen_cons (aLen_cons aLen_nil)))) (dg_nm (pg_name (i := 4) sc_law.nd rfl (Or.inl rfl)))
    (dss_cons (ds_asg (ps_asg (de_callB (pe_callB (call_reprQ hg.2 (room_un hr)) (by rfl) T.z_repr (by decide +kernel) (da_cons (pa_cons (de_var (pv 4)) da_nil))) cReprQ_ok) (dg_nm (pg_name (i := 5) sc_law.nd rfl (Or.inl rfl)))))
    (dss_cons (ds_asg (ps_asg (de_lst (pe_lst (da_cons (pa_cons (de_callD d_is_fraction hr tk (by decide) (by rfl) (da_cons (pa_cons (de_var (pv 4)) da_nil)) (aLen_cons aLen_nil)) (da_cons (pa_cons (de_callD d_is_fraction hr tk (by decide) (by rfl) (da_cons (pa_cons (de_var (pv 4)) da_nil)) (aLen_cons aLen_nil)) da_nil)))))) (dg_nm (pg_name (i := 6) sc_law.nd rfl (Or.inl rfl)))))
    (dss_one (ds_if (dt_w (dw_or (dt_not (dt_val (de_callD d_l_same hr tk (by decide) (by rfl) (da_cons (pa_cons (de_var (pv 6)) (da_cons (pa_cons (de_op op_mulAll oMul_ok (de_lst (pe_lst (da_cons (pa_cons (de_callD d_l_due hr tk (by decide) (by rfl) (da_cons (pa_cons (de_var (pv 4)) da_nil)) (aLen_cons aLen_nil)) da_nil)))) de_int) da_nil)))) (aLen_cons (aLen_cons aLen_nil))))) (dw_or1 (dt_cmp (op_neD hr.units) oNe_ok oEqG_bl (de_callB (pe_callB (call_reprQ hg.2 (room_un hr)) (by rfl) T.z_repr (by decide +kernel) (da_cons (pa_cons (de_var (pv 4)) da_nil))) cReprQ_ok) (de_var (pv 5))))))
    (dss_one (ds_ret de_bl))
    dss_nil))))))))))
    (dss_one (ds_ret de_bl))))
end
end Lk03
set_option Elab.async false
set_option linter.all false
set_option maxRecDepth 100000
/-! how the functions of data are reckoned -/
namespace DV
open PySem L2
/-! ### data that a call hands on as it is -/
mutual
/-- by value, at most so deep -/
def Pl : Nat → D → Prop
  | 0, _ => False
  | k + 1, .tup xs => Pls k xs
  | k + 1, .lst xs => Pls k xs
  | _ + 1, .ob _ => False
  | k + 1, .dct kvs => Pls k (kvs.map (·.2))
  | _ + 1, .dtt _ => False
  | k + 1, .ins _ _ vs => Pls k vs
  | _ + 1, _ => True
def Pls : Nat → List D → Prop
  | _, [] => True
  | 0, _ :: _ => False
  | k + 1, d :: ds => Pl k d ∧ Pls (k + 1) ds
end
theorem zipkv {α β : Type} : ∀ {l : List (α × β)}, (l.map (·.1)).zip (l.map (·.2)) = l
  | [] => rfl
  | x :: l => by simp only [List.map_cons, List.zip_cons_cons, zipkv (l := l)]
mutual
theorem frz_pl {n : Nat} {S : Sto} : ∀ (k : Nat) (d : D), Pl k d → frz n S k d = some d
  | 0, _, h => by simp [Pl] at h
  | k + 1, .tup xs, h => by simp only [Pl] at h; simp only [frz, frzs_pl k xs h, Option.map_some]
  | k + 1, .lst xs, h => by simp only [Pl] at h; simp only [frz, frzs_pl k xs h, Option.map_some]
  | k + 1, .ins c ks vs, h => by simp only [Pl] at h; simp only [frz, frzs_pl k vs h, Option.map_some]
  | _ + 1, .ob _, h => by simp [Pl] at h
  | k + 1, .dct kvs, h => by simp only [Pl] at h; simp only [frz, frzs_pl k _ h, Option.map_some, zipkv]
  | _ + 1, .dtt _, h => by simp [Pl] at h
  | _ + 1, .non, _ => by simp [frz]
  | _ + 1, .bl _, _ => by simp [frz]
  | _ + 1, .int _, _ => by simp [frz]
  | _ + 1, .str _, _ => by simp [frz]
  | _ + 1, .exc _, _ => by simp [frz]
  | _ + 1, .ro _, _ => by simp [frz]
  | _ + 1, .gl _, _ => by simp [frz]
theorem frzs_pl {n : Nat} {S : Sto} : ∀ (k : Nat) (ds : List D), Pls k ds → frzs n S k ds = some ds
  | 0, [], _ => by simp [frzs]
  | _ + 1, [], _ => by simp [frzs]
  | 0, _ :: _, h => by simp [Pls] at h
  | k + 1, d :: ds, h => by
    simp only [Pls] at h
    simp only [frzs, frz_pl k d h.1, frzs_pl (k + 1) ds h.2]
end
theorem pls_iff {k : Nat} : ∀ {ds : List D}, Pls (k + 1) ds ↔ ∀ d ∈ ds, Pl k d
  | [] => by simp [Pls]
  | d :: ds => by simp [Pls, pls_iff (k := k) (ds := ds)]
theorem pl_tup {k : Nat} {xs : List D} (h : Pls k xs) : Pl (k + 1) (.tup xs) := by simp only [Pl]; exact h
theorem pl_lst {k : Nat} {xs : List D} (h : Pls k xs) : Pl (k + 1) (.lst xs) := by simp only [Pl]; exact h
mutual
theorem Pl.up : ∀ {k : Nat} {d : D}, Pl k d → Pl (k + 1) d
  | 0, _, h => by simp [Pl] at h
  | k + 1, .tup xs, h => by simp only [Pl] at h ⊢; exact Pls.up h
  | k + 1, .lst xs, h => by simp only [Pl] at h ⊢; exact Pls.up h
  | k + 1, .ins c ks vs, h => by simp only [Pl] at h ⊢; exact Pls.up h
  | _ + 1, .ob _, h => by simp [Pl] at h
  | k + 1, .dct kvs, h => by simp only [Pl] at h ⊢; exact Pls.up h
  | _ + 1, .dtt _, h => by simp [Pl] at h
  | _ + 1, .non, _ => by simp [Pl]
  | _ + 1, .bl _, _ => by simp [Pl]
  | _ + 1, .int _, _ => by simp [Pl]
  | _ + 1, .str _, _ => by simp [Pl]
  | _ + 1, .exc _, _ => by simp [Pl]
  | _ + 1, .ro _, _ => by simp [Pl]
  | _ + 1, .gl _, _ => by simp [Pl]
theorem Pls.up : ∀ {k : Nat} {ds : List D}, Pls k ds → Pls (k + 1) ds
  | _, [], _ => by simp [Pls]
  | 0, _ :: _, h => by simp [Pls] at h
  | k + 1, d :: ds, h => by
    simp only [Pls] at h ⊢
    exact ⟨h.1.up, h.2.up⟩
end
theorem Pl.le {d : D} {k j : Nat} (h : Pl k d) (hj : k ≤ j) : Pl j d := by
  induction hj with
  | refl => exact h
  | step _ ih => exact ih.up
theorem Pls.le {d : List D} {k j : Nat} (h : Pls k d) (hj : k ≤ j) : Pls j d := by
  induction hj with
  | refl => exact h
  | step _ ih => exact ih.up
/-! ### what a call leaves of the store -/
/-- an object that stays as it is when it is handed on -/
def Fz (n : Nat) (o : O) : Prop := ∀ S, frzO n S 40 o = some o
/-- S' is S, or S with other objects that are fit to be handed on -/
structure Kp (S S' : Sto) : Prop where
  len : S'.length = S.length
  at' : ∀ (i : Nat) (o : O), S'[i]? = some o → S[i]? = some o ∨ Fz S.length o
theorem Kp.rfl' {S : Sto} : Kp S S := ⟨rfl, fun i o h => .inl h⟩
theorem Kp.trans {S S1 S2 : Sto} (a : Kp S S1) (b : Kp S1 S2) : Kp S S2 := ⟨b.len.trans a.len, fun i o h => (b.at' i o h).elim (a.at' i o) fun z => .inr (by rw [← a.len]; exact z)⟩
theorem dropOs_kp {n : Nat} {S1 : Sto} : ∀ {S S' E : Sto}, S'.length = S.length → (∀ (i : Nat) (o : O), S'[i]? = some o → S[i]? = some o ∨ Fz n o) → dropOs n S1 40 S (S' ++ E) = some S'
  | [], [], _, _, _ => rfl
  | [], _ :: _, _, h, _ => by simp at h
  | _ :: _, [], _, h, _ => by simp at h
  | o :: os, o' :: os', E, h, g => by
    have ih := dropOs_kp (n := n) (S1 := S1) (S := os) (S' := os') (E := E) (by simpa using h) fun i u hu => by simpa using g (i + 1) u (by simpa using hu)
    have h0 := g 0 o' rfl
    simp only [List.cons_append, dropOs, ih]
    by_cases e : o' = o
    · subst e; rw [if_pos (gd_of rfl)]
    · have : ¬ gd (o' = o) = true := fun z => e (of_gd z)
      rw [if_neg this]
      rcases h0 with h0 | h0
      · exact absurd (by simpa using h0) (Ne.symm e)
      · rw [h0]
theorem Kp.drop {S S' E : Sto} {S1 : Sto} (k : Kp S S') : dropOs S.length S1 40 S (S' ++ E) = some S' := dropOs_kp k.len k.at'
/-! ### what is wanted of a result -/
/-- what comes later hangs on this, so it is left alone while the head is reckoned -/
structure Tie {α : Type} (Q : α → Sto → Prop) (E : Str → Sto → Prop) : Type where
def Wp {α : Type} (r : Res α) (Q : α → Sto → Prop) (E : Str → Sto → Prop) (_ : Tie Q E := ⟨⟩) : Prop := match r with
  | .ok a S => Q a S
  | .ex c S => E c S
  | .no => False
structure Pq where
  nx : Lc → Sto → Prop
  rt : D → Sto → Prop
  ex : Str → Lc → Sto → Prop
  bk : Lc → Sto → Prop
  ct : Lc → Sto → Prop
structure TieS (N : Pq) : Type where
def Ws (r : SR) (N : Pq) (_ : TieS N := ⟨⟩) : Prop := match r with
  | .nx ρ S => N.nx ρ S
  | .rt d S => N.rt d S
  | .ex c ρ S => N.ex c ρ S
  | .bk ρ S => N.bk ρ S
  | .ct ρ S => N.ct ρ S
  | .no => False
section
variable {α β : Type} {Q Q' : α → Sto → Prop} {E E' : Str → Sto → Prop} {N N' : Pq} {S : Sto} {ρ : Lc}
theorem wp_congr {r r' : Res α} (h : r = r') : Wp r Q E = Wp r' Q E := by rw [h]
theorem ws_congr {r r' : SR} (h : r = r') : Ws r N = Ws r' N := by rw [h]
@[simp] theorem wp_ok {a : α} : Wp (.ok a S) Q E = Q a S := rfl
@[simp] theorem wp_ex {c : Str} : Wp (.ex c S : Res α) Q E = E c S := rfl
@[simp] theorem wp_no : Wp (.no : Res α) Q E = False := rfl
@[simp] theorem ws_nx : Ws (.nx ρ S) N = N.nx ρ S := rfl
@[simp] theorem ws_rt {d : D} : Ws (.rt d S) N = N.rt d S := rfl
@[simp] theorem ws_ex {c : Str} : Ws (.ex c ρ S) N = N.ex c ρ S := rfl
@[simp] theorem ws_bk : Ws (.bk ρ S) N = N.bk ρ S := rfl
@[simp] theorem ws_ct : Ws (.ct ρ S) N = N.ct ρ S := rfl
@[simp] theorem ws_no : Ws .no N = False := rfl
@[simp] theorem wp_bind {r : Res β} {k : β → Sto → Res α} : Wp (r.bind k) Q E = Wp r (fun b S => Wp (k b S) Q E) E := by cases r <;> rfl
@[simp] theorem ws_sb {r : Res β} {k : β → Sto → SR} : Ws (r.sb ρ k) N = Wp r (fun b S => Ws (k b S) N) (fun c S => N.ex c ρ S) := by cases r <;> rfl
@[simp] theorem wp_ite {p : Prop} [Decidable p] {a b : Res α} : Wp (if p then a else b) Q E = ((p → Wp a Q E) ∧ (¬ p → Wp b Q E)) := by by_cases h : p <;> simp [h]
@[simp] theorem ws_ite {p : Prop} [Decidable p] {a b : SR} : Ws (if p then a else b) N = ((p → Ws a N) ∧ (¬ p → Ws b N)) := by by_cases h : p <;> simp [h]
theorem Wp.imp {r : Res α} (h : Wp r Q E) (hq : ∀ a S, Q a S → Q' a S) (he : ∀ c S, E c S → E' c S) : Wp r Q' E' := by
  cases r with
  | ok a S => exact hq _ _ h
  | ex c S => exact he _ _ h
  | no => exact h
theorem Wp.eq {r : Res α} {a : α} (h : r = .ok a S) (q : Q a S) : Wp r Q E := by rw [h]; exact q
theorem Wp.eqx {r : Res α} {c : Str} (h : r = .ex c S) (q : E c S) : Wp r Q E := by rw [h]; exact q
theorem Wp.get {r : Res α} (h : Wp r Q fun _ _ => False) : ∃ a S, r = .ok a S ∧ Q a S := by
  cases r with
  | ok a S => exact ⟨a, S, rfl, h⟩
  | ex c S => exact h.elim
  | no => exact h.elim
theorem Ws.imp {r : SR} (h : Ws r N) (h1 : ∀ ρ S, N.nx ρ S → N'.nx ρ S) (h2 : ∀ d S, N.rt d S → N'.rt d S) (h3 : ∀ c ρ S, N.ex c ρ S → N'.ex c ρ S) (h4 : ∀ ρ S, N.bk ρ S → N'.bk ρ S) (h5 : ∀ ρ S, N.ct ρ S → N'.ct ρ S) : Ws r N' := by
  cases r with
  | nx ρ S => exact h1 _ _ h
  | rt d S => exact h2 _ _ h
  | ex c ρ S => exact h3 _ _ _ h
  | bk ρ S => exact h4 _ _ h
  | ct ρ S => exact h5 _ _ h
  | no => exact h
theorem ws_seq {a b : SF} (h : Ws (a ρ S) { N with nx := fun ρ' S' => Ws (b ρ' S') N }) : Ws (sSeq a b ρ S) N := by
  unfold sSeq
  cases e : a ρ S <;> rw [e] at h <;> exact h
@[simp] theorem ws_seq_eq {a b : SF} : Ws (sSeq a b ρ S) N = Ws (a ρ S) { N with nx := fun ρ' S' => Ws (b ρ' S') N } := by
  unfold sSeq
  cases a ρ S <;> rfl
/-- the next statement, whose behaviour is known -/
theorem ws_step {a b : SF} {ρ' : Lc} {S' : Sto} (h : a ρ S = .nx ρ' S') (q : Ws (b ρ' S') N) : Ws (sSeq a b ρ S) N := by
  unfold sSeq; rw [h]; exact q
end
/-! ### calls of defs -/
section
variable {N n : Nat} {b : SF} {ds : List D} {S : Sto} {Q : D → Sto → Prop} {E : Str → Sto → Prop}
/-- a call: what its body must do -/
def endP (S : Sto) (Q : D → Sto → Prop) (E : Str → Sto → Prop) : Pq where
  nx := fun _ S' => ∃ T X, S' = T ++ X ∧ Kp S T ∧ Q .non T
  rt := fun d S' => ∃ T X e, S' = T ++ X ∧ Kp S T ∧ frz S.length S' 40 d = some e ∧ Q e T
  ex := fun c _ S' => ∃ T X, S' = T ++ X ∧ Kp S T ∧ E c T
  bk := fun _ _ => False
  ct := fun _ _ => False
theorem wp_run (h : Ws (b (ds.map some ++ List.replicate (N - n) none) S) (endP S Q E)) : Wp (runF N n b ds S) Q E := by
  unfold runF runK
  cases e : b (ds.map some ++ List.replicate (N - n) none) S with
  | rt d S' =>
    rw [e] at h
    obtain ⟨T, X, d', rfl, k, f, q⟩ := h
    simp only [endR, dropR, f, k.drop]
    exact q
  | nx ρ S' =>
    rw [e] at h
    obtain ⟨T, X, rfl, k, q⟩ := h
    simp only [endR, dropR, k.drop, frz]
    exact q
  | ex c ρ S' =>
    rw [e] at h
    obtain ⟨T, X, rfl, k, q⟩ := h
    simp only [endR, dropR, k.drop]
    exact q
  | bk ρ S' => rw [e] at h; exact h.elim
  | ct ρ S' => rw [e] at h; exact h.elim
  | no => rw [e] at h; exact h.elim
/-- the same, for a def that keeps what it made -/
theorem wp_runK (h : Ws (b (ds.map some ++ List.replicate (N - n) none) S) ⟨fun _ S' => Q .non S', Q, fun c _ S' => E c S', fun _ _ => False, fun _ _ => False⟩) : Wp (runK N n b ds S) Q E := by
  unfold runK
  cases e : b (ds.map some ++ List.replicate (N - n) none) S <;> rw [e] at h <;> exact h
/-- a pure def's end -/
theorem end_pure {d : D} {X : Sto} (hd : Pl 40 d) (q : Q d S) : (endP S Q E).rt d (S ++ X) := ⟨S, X, d, rfl, .rfl', frz_pl 40 d hd, q⟩
theorem end_pure0 {d : D} (hd : Pl 40 d) (q : Q d S) : (endP S Q E).rt d S := ⟨S, [], d, by simp, .rfl', frz_pl 40 d hd, q⟩
theorem end_ex {c : Str} {ρ : Lc} (q : E c S) : (endP S Q E).ex c ρ S := ⟨S, [], by simp, .rfl', q⟩
/-- a pure def, by equations -/
theorem run_eq {d : D} {X : Sto} (h : b (ds.map some ++ List.replicate (N - n) none) S = .rt d (S ++ X)) (hd : Pl 40 d) : runF N n b ds S = .ok d S := by
  have hd' := frz_pl (n := S.length) (S := S ++ X) 40 d hd
  unfold runF runK
  rw [h]
  simp only [endR, dropR, hd', Kp.rfl'.drop]
theorem run_eq0 {d : D} (h : b (ds.map some ++ List.replicate (N - n) none) S = .rt d S) (hd : Pl 40 d) : runF N n b ds S = .ok d S := run_eq (X := []) (by simpa using h) hd
theorem run_ex {c : Str} {ρ : Lc} {X : Sto} (h : b (ds.map some ++ List.replicate (N - n) none) S = .ex c ρ (S ++ X)) : runF N n b ds S = .ex c S := by
  unfold runF runK
  rw [h]
  simp only [endR, dropR, Kp.rfl'.drop]
theorem run_ex0 {c : Str} {ρ : Lc} (h : b (ds.map some ++ List.replicate (N - n) none) S = .ex c ρ S) : runF N n b ds S = .ex c S := run_ex (ρ := ρ) (X := []) (by simpa using h)
/-- from what is wanted to an equation -/
theorem eq_of_wp {α : Type} {r : Res α} {v : α} (h : Wp r (fun a S' => a = v ∧ S' = S) fun _ _ => False) : r = .ok v S := by
  obtain ⟨a, S', e, rfl, rfl⟩ := h.get
  exact e
end
end DV
set_option Elab.async false
set_option linter.all false
set_option maxRecDepth 100000
/-! the rules of reckoning: expressions, statements -/
namespace DV
open PySem L2
@[simp] theorem bind_ok {α β : Type} (a : α) (S : Sto) (k : α → Sto → Res β) : (Res.ok a S).bind k = k a S := rfl
@[simp] theorem bind_no {α β : Type} (k : α → Sto → Res β) : (Res.no : Res α).bind k = .no := rfl
@[simp] theorem bind_ex {α β : Type} (c : Str) (S : Sto) (k : α → Sto → Res β) : (Res.ex c S : Res α).bind k = .ex c S := rfl
@[simp] theorem sb_ok {α : Type} (a : α) (S : Sto) (ρ : Lc) (k : α → Sto → SR) : (Res.ok a S).sb ρ k = k a S := rfl
@[simp] theorem sb_no {α : Type} (ρ : Lc) (k : α → Sto → SR) : (Res.no : Res α).sb ρ k = .no := rfl
@[simp] theorem sb_ex {α : Type} (c : Str) (S : Sto) (ρ : Lc) (k : α → Sto → SR) : (Res.ex c S : Res α).sb ρ k = .ex c ρ S := rfl
section
variable (ρ : Lc) (S : Sto)
@[simp] theorem eC_eq (d : D) : eC d ρ S = .ok d S := rfl
@[simp] theorem eVar_0 (d : D) : eVar 0 (some d :: ρ) S = .ok d S := rfl
@[simp] theorem eVar_s (i : Nat) (o : Option D) : eVar (i + 1) (o :: ρ) S = eVar i ρ S := rfl
@[simp] theorem aNil_eq : aNil ρ S = .ok [] S := rfl
@[simp] theorem aCons_eq (a : EF) (r : AF) : aCons a r ρ S = (a ρ S).bind fun x S1 => (r ρ S1).bind fun xs S2 => .ok (x :: xs) S2 := rfl
@[simp] theorem eOp_eq (o : OF) (a b : EF) : eOp o a b ρ S = (a ρ S).bind fun x S1 => (b ρ S1).bind fun y S2 => o x y S2 := rfl
@[simp] theorem eCall_eq (F : FF) (a : AF) : eCall F a ρ S = (a ρ S).bind fun ds S1 => F ds S1 := rfl
@[simp] theorem eB_eq (F : FF) (a : AF) : eB F a ρ S = (a ρ S).bind fun ds S1 => F ds S1 := rfl
@[simp] theorem eNeg_eq (a : EF) : eNeg a ρ S = (a ρ S).bind fun d S1 => match d with | .int i => .ok (.int (-i)) S1 | _ => .no := rfl
@[simp] theorem eNot_eq (a : EF) : eNot a ρ S = (a ρ S).bind fun d S1 => match truD d S1 with | some k => .ok (.bl (!k)) S1 | none => .no := rfl
@[simp] theorem eAnd_eq (a b : EF) : eAnd a b ρ S = (a ρ S).bind fun d S1 => match truD d S1 with | some true => b ρ S1 | some false => .ok d S1 | none => .no := rfl
@[simp] theorem eOr_eq (a b : EF) : eOr a b ρ S = (a ρ S).bind fun d S1 => match truD d S1 with | some true => .ok d S1 | some false => b ρ S1 | none => .no := rfl
@[simp] theorem eIf_eq (c : TF) (a b : EF) : eIf c a b ρ S = (c ρ S).bind fun k S1 => if k = true then a ρ S1 else b ρ S1 := rfl
@[simp] theorem tTru_eq (a : EF) : tTru a ρ S = (a ρ S).bind fun d S1 => match truD d S1 with | some k => .ok k S1 | none => .no := rfl
@[simp] theorem bAnd_eq (a b : TF) : bAnd a b ρ S = (a ρ S).bind fun k S1 => if k = true then b ρ S1 else .ok false S1 := rfl
@[simp] theorem bOr_eq (a b : TF) : bOr a b ρ S = (a ρ S).bind fun k S1 => if k = true then .ok true S1 else b ρ S1 := rfl
@[simp] theorem bNot_eq (a : TF) : bNot a ρ S = (a ρ S).bind fun k S1 => .ok (!k) S1 := rfl
@[simp] theorem cYes_eq : cYes ρ S = .ok true S := rfl
@[simp] theorem eTup_eq (a : AF) : eTup a ρ S = (a ρ S).bind fun ds S1 => if szOk ds.length then .ok (.tup ds) S1 else .no := rfl
@[simp] theorem eLst_eq (a : AF) : eLst a ρ S = (a ρ S).bind fun ds S1 => if szOk ds.length then .ok (.lst ds) S1 else .no := rfl
@[simp] theorem eLstS_eq (a : AF) : eLstS a ρ S = (a ρ S).bind fun ds S1 => if szOk ds.length then .ok (.ob S1.length) (S1 ++ [.lst ds]) else .no := rfl
@[simp] theorem eSl_eq (a : EF) (lo hi : PF) : eSl a lo hi ρ S = (a ρ S).bind fun d S1 => (lo ρ S1).bind fun l S2 => (hi ρ S2).bind fun u S3 => oSl d l u S3 := rfl
@[simp] theorem eSlS_eq (a : EF) (lo hi : PF) : eSlS a lo hi ρ S = (a ρ S).bind fun d S1 => (lo ρ S1).bind fun l S2 => (hi ρ S2).bind fun u S3 => oSlS d l u S3 := rfl
@[simp] theorem pNo_eq : pNo ρ S = .ok none S := rfl
@[simp] theorem pAt_eq (a : EF) : pAt a ρ S = (a ρ S).bind fun d S1 => match d with | .int i => .ok (some i) S1 | _ => .no := rfl
@[simp] theorem eApp_eq (a b : EF) : eApp a b ρ S = (a ρ S).bind fun l S1 => match l with
  | .ob n => (match S1[n]? with
    | some (.lst _) => (b ρ S1).bind fun d S2 => (match S2[n]? with
      | some (.lst xs) => if szOk xs.length then .ok .non (S2.set n (.lst (xs ++ [d]))) else .no
      | _ => .no)
    | _ => .no)
  | _ => .no := rfl
@[simp] theorem eIs_eq (a : EF) (b : String) : eIs a b ρ S = (a ρ S).bind fun d S1 => match isD d S1 b with
  | some k => .ok (.bl k) S1
  | none => .no := rfl
@[simp] theorem eIs2_eq (a : EF) (b c : String) : eIs2 a b c ρ S = (a ρ S).bind fun d S1 => match tyD d S1 with
  | some t => (match kitB t b, kitB t c with
    | some k, some l => .ok (.bl (k || l)) S1
    | _, _ => .no)
  | none => .no := rfl
@[simp] theorem eFld_eq (c f : Str) (a : EF) : eFld c f a ρ S = (a ρ S).bind fun d S1 => match insOf c d S1 with
  | some (ks, vs) => (match lookK f ks vs with
    | some x => .ok x S1
    | none => .no)
  | none => .no := rfl
@[simp] theorem eDGet_eq (a b : EF) : eDGet a b ρ S = (a ρ S).bind fun x S1 => (b ρ S1).bind fun y S2 => match getX x y S2 with
  | some (some d) => .ok d S2
  | _ => .no := rfl
@[simp] theorem eMakeS_eq (c : Str) (F : FF) (ga : AF) : eMakeS c F ga ρ S = (ga ρ S).bind fun ds S1 => makeR c F ds S1 := rfl
@[simp] theorem eMeth_eq (c m : Str) (F : FF) (a : EF) (ga : AF) : eMeth c m F a ga ρ S = (a ρ S).bind fun d S1 => match insOf c d S1 with
  | some (ks, vs) => if (lookK m ks vs).isSome then .no else (ga ρ S1).bind fun ds S2 => (F (d :: ds) S2).noex
  | none => .no := rfl
@[simp] theorem eDctS_eq : eDctS ρ S = .ok (.ob S.length) (S ++ [.dic []]) := rfl
@[simp] theorem eDttS_eq : eDttS ρ S = .ok (.ob S.length) (S ++ [.dtt []]) := rfl
@[simp] theorem eSet0S_eq : eSet0S ρ S = .ok (.ob S.length) (S ++ [.set []]) := rfl
@[simp] theorem eS0_eq (g : Str → Bool) (a : EF) : eS0 g a ρ S = (a ρ S).bind fun d S1 => match d with
  | .str s => .ok (.bl (g s)) S1
  | _ => .no := rfl
@[simp] theorem iSeq_eq (a : EF) : iSeq a ρ S = (a ρ S).bind fun d S1 => match d with
  | .tup xs => .ok (.tup xs) S1
  | .str s => .ok (.str s) S1
  | .lst xs => .ok (.vlst xs) S1
  | .ob n => match S1[n]? with | some (.lst _) => .ok (.lst n) S1 | _ => .no
  | _ => .no := rfl
@[simp] theorem iRng_eq (a : AF) : iRng a ρ S = (a ρ S).bind fun ds S1 => match ds with
  | [.int j] => if gd (-(2 ^ 62) ≤ j ∧ j < 2 ^ 62) then .ok (.rng 0 j.toNat) S1 else .no
  | [.int i, .int j] => if gd (-(2 ^ 62) ≤ i ∧ i < 2 ^ 62 ∧ -(2 ^ 62) ≤ j ∧ j < 2 ^ 62) then .ok (.rng i (j - i).toNat) S1 else .no
  | _ => .no := rfl
@[simp] theorem iZip_eq (a : AF) : iZip a ρ S = (a ρ S).bind fun ds S1 => match ds with
  | [.tup xs, .tup ys] => .ok (.zipT xs ys) S1
  | [.lst xs, .lst ys] => .ok (.zipV xs ys) S1
  | [.lst xs, .ob n] => match S1[n]? with | some (.lst _) => .ok (.zipO xs n) S1 | _ => .no
  | _ => .no := rfl
/-! statements -/
@[simp] theorem sRet_eq (a : EF) : sRet a ρ S = (a ρ S).sb ρ fun d S1 => .rt d S1 := rfl
@[simp] theorem sNil_eq : sNil ρ S = .nx ρ S := rfl
@[simp] theorem sRetN_eq : sRetN ρ S = .rt .non S := rfl
@[simp] theorem sBrk_eq : sBrk ρ S = .bk ρ S := rfl
@[simp] theorem sCnt_eq : sCnt ρ S = .ct ρ S := rfl
@[simp] theorem sRaise_eq (c : Str) : sRaise c ρ S = .ex c ρ S := rfl
@[simp] theorem sExpr_eq (a : EF) : sExpr a ρ S = (a ρ S).sb ρ fun _ S1 => .nx ρ S1 := rfl
@[simp] theorem sIf_eq (c : TF) (a b : SF) : sIf c a b ρ S = (c ρ S).sb ρ fun k S1 => if k = true then a ρ S1 else b ρ S1 := rfl
@[simp] theorem sAsg_nm (i : Nat) (a : EF) : sAsg (.nm i) a ρ S = (a ρ S).sb ρ fun d S1 => .nx (ρ.set i (some d)) S1 := by
  unfold sAsg
  rfl
@[simp] theorem sAsg_tp (ts : List Tg) (a : EF) : sAsg (.tp ts) a ρ S = (a ρ S).sb ρ fun d S1 => match Tg.put (.tp ts) d ρ S1 with | some ρ' => .nx ρ' S1 | none => .no := rfl
@[simp] theorem sPar_eq (i j : Nat) (a : AF) : sPar i j a ρ S = (a ρ S).sb ρ fun ds S1 => match ds with | [x, y] => .nx ((ρ.set i (some x)).set j (some y)) S1 | _ => .no := rfl
@[simp] theorem sPar3_eq (i j l : Nat) (a : AF) : sPar3 i j l a ρ S = (a ρ S).sb ρ fun ds S1 => match ds with | [x, y, z] => .nx (((ρ.set i (some x)).set j (some y)).set l (some z)) S1 | _ => .no := rfl
@[simp] theorem sFor_eq (a : IF) (t : Tg) (b : SF) : sFor a t b ρ S = (a ρ S).sb ρ fun it S1 => forGo it t b (it.size S1) 0 ρ S1 := rfl
@[simp] theorem sFld_eq (c f : Str) (a e : EF) : sFld c f a e ρ S = (e ρ S).sb ρ fun v S1 => (a ρ S1).sb ρ fun d S2 => match putI c f d v S2 with
  | some S3 => .nx ρ S3
  | none => .no := rfl
@[simp] theorem sDPutD_eq (o i a : EF) : sDPutD o i a ρ S = (a ρ S).sb ρ fun v S1 => (o ρ S1).sb ρ fun d S2 => (i ρ S2).sb ρ fun k S3 => match putX d k v S3 with
  | some T => .nx ρ T
  | none => .no := rfl
@[simp] theorem put_nm (i : Nat) (d : D) : Tg.put (.nm i) d ρ S = some (ρ.set i (some d)) := by simp [Tg.put]
@[simp] theorem put_tp (ts : List Tg) (ds : List D) : Tg.put (.tp ts) (.tup ds) ρ S = Tg.puts ts ds ρ S := by simp [Tg.put, seqOf]
@[simp] theorem put_tpl (ts : List Tg) (ds : List D) : Tg.put (.tp ts) (.lst ds) ρ S = Tg.puts ts ds ρ S := by simp [Tg.put, seqOf, lstOf]
@[simp] theorem puts_nil : Tg.puts [] [] ρ S = some ρ := by simp [Tg.puts]
@[simp] theorem puts_cons (t : Tg) (ts : List Tg) (d : D) (ds : List D) : Tg.puts (t :: ts) (d :: ds) ρ S = match Tg.put t d ρ S with | some ρ' => Tg.puts ts ds ρ' S | none => none := by
  simp only [Tg.puts]
  try (cases Tg.put t d ρ S <;> rfl)
end
/-! operators -/
section
variable (S : Sto) (i j : Int)
@[simp] theorem oAdd_int : oAdd (.int i) (.int j) S = .ok (.int (i + j)) S := rfl
@[simp] theorem oSub_int : oSub (.int i) (.int j) S = .ok (.int (i - j)) S := rfl
@[simp] theorem oLt_int : oLt (.int i) (.int j) S = .ok (.bl (decide (i < j))) S := rfl
@[simp] theorem oLe_int : oLe (.int i) (.int j) S = .ok (.bl (decide (i ≤ j))) S := rfl
@[simp] theorem oGt_int : oGt (.int i) (.int j) S = .ok (.bl (decide (j < i))) S := rfl
@[simp] theorem oGt_bli (b : Bool) : oGt (.bl b) (.int j) S = .ok (.bl (decide (j < (if b = true then 1 else 0)))) S := rfl
@[simp] theorem oGe_int : oGe (.int i) (.int j) S = .ok (.bl (decide (j ≤ i))) S := rfl
@[simp] theorem oMul_if : oMul (.int i) (.int j) S = if mulOk i j = true then .ok (.int (i * j)) S else .no := rfl
@[simp] theorem oDiv_if : oDiv (.int i) (.int j) S = if divOk i j = true then .ok (.int (i.fdiv j)) S else .no := by
  unfold oDiv oI
  by_cases h : divOk i j = true <;> simp [h]
theorem oMul_int {i j : Int} (S : Sto) (h : mulOk i j = true) : oMul (.int i) (.int j) S = .ok (.int (i * j)) S := by
  show (if mulOk i j = true then _ else _) = _
  rw [if_pos h]
theorem oDiv_int {i j : Int} (S : Sto) (h : divOk i j = true) : oDiv (.int i) (.int j) S = .ok (.int (i.fdiv j)) S := by simp [h]
@[simp] theorem oMod_if : oMod (.int i) (.int j) S = if gd (0 < j) = true then .ok (.int (i % j)) S else .no := by
  unfold oMod oI
  by_cases h : gd (0 < j) = true <;> simp [h]
@[simp] theorem oPow_if : oPow (.int i) (.int j) S = if gd (0 ≤ j ∧ j ≤ 1000000 ∧ i.natAbs < 2 ^ 64) = true then .ok (.int (i ^ j.toNat)) S else .no := by
  unfold oPow oI
  by_cases h : gd (0 ≤ j ∧ j ≤ 1000000 ∧ i.natAbs < 2 ^ 64) = true <;> simp [h]
@[simp] theorem gd_iff {p : Prop} : (gd p = true) = p := propext ⟨of_gd, gd_of⟩
@[simp] theorem oIx_tup (xs : List D) : oIx (.tup xs) (.int i) S = match atI xs i with | some d => .ok d S | none => .no := rfl
@[simp] theorem oIx_lst (xs : List D) : oIx (.lst xs) (.int i) S = match atI xs i with | some d => .ok d S | none => .no := rfl
@[simp] theorem oIx_ob (n : Nat) : oIx (.ob n) (.int i) S = match lstOf (.ob n) S with
    | some xs => match atI xs i with | some d => .ok d S | none => .no
    | none => .no := rfl
@[simp] theorem oAdd_tup (xs ys : List D) : oAdd (.tup xs) (.tup ys) S = if szOk (xs.length + ys.length) then .ok (.tup (xs ++ ys)) S else .no := rfl
@[simp] theorem oAdd_lst (xs ys : List D) : oAdd (.lst xs) (.lst ys) S = if szOk (xs.length + ys.length) then .ok (.lst (xs ++ ys)) S else .no := by
  simp only [oAdd, catD, lstOf]
  by_cases h : szOk (xs.length + ys.length) = true <;> simp [h]
@[simp] theorem oAdd_str (x y : Str) : oAdd (.str x) (.str y) S = if szOk (x.length + y.length) then .ok (.str (x ++ y)) S else .no := rfl
@[simp] theorem szOk_le {n : Nat} : (szOk n = true) = (n ≤ 1000000) := propext ⟨fun h => of_gd h, fun h => gd_of h⟩
@[simp] theorem truD_bl (b : Bool) : truD (.bl b) S = some b := rfl
@[simp] theorem truD_int : truD (.int i) S = some (i != 0) := rfl
@[simp] theorem truD_non : truD .non S = some false := rfl
@[simp] theorem truD_tup (xs : List D) : truD (.tup xs) S = some (!xs.isEmpty) := rfl
@[simp] theorem truD_lst (xs : List D) : truD (.lst xs) S = some (!xs.isEmpty) := rfl
@[simp] theorem cGcd_int : cGcd [.int i, .int j] S = .ok (.int ((Nat.gcd i.natAbs j.natAbs : Nat) : Int)) S := rfl
@[simp] theorem cAbs_int : cAbs [.int i] S = .ok (.int (if i < 0 then -i else i)) S := rfl
@[simp] theorem cLen_tup (xs : List D) : cLen [.tup xs] S = .ok (.int xs.length) S := rfl
@[simp] theorem cLen_lst (xs : List D) : cLen [.lst xs] S = .ok (.int xs.length) S := rfl
@[simp] theorem cInt_int : cInt [.int i] S = .ok (.int i) S := rfl
@[simp] theorem cInt_bl (b : Bool) : cInt [.bl b] S = .ok (.int (if b then 1 else 0)) S := rfl
@[simp] theorem cMin_int : cMin [.int i, .int j] S = .ok (.int (if j < i then j else i)) S := rfl
@[simp] theorem cMax_int : cMax [.int i, .int j] S = .ok (.int (if j > i then j else i)) S := rfl
@[simp] theorem cDivmod_int : cDivmod [.int i, .int j] S = if divOk i j && gd (0 < j) then .ok (.tup [.int (i / j), .int (i % j)]) S else .no := rfl
@[simp] theorem cList_tup (xs : List D) : cList [.tup xs] S = .ok (.lst xs) S := rfl
@[simp] theorem cList_lst (xs : List D) : cList [.lst xs] S = .ok (.lst xs) S := rfl
end
/-- from bounds by powers of two -/
theorem mulOk_of {i j : Int} {a b : Nat} (ha : i.natAbs < 2 ^ a) (hb : j.natAbs < 2 ^ b) (h : a + b ≤ 134217728) : mulOk i j = true := by
  have x := PyProof.Rows.intBits_le ha
  have y := PyProof.Rows.intBits_le hb
  exact gd_of (by omega)
theorem divOk_of {i j : Int} {b : Nat} (h : j ≠ 0) (hb : j.natAbs < 2 ^ b) (h9 : b ≤ 9000) : divOk i j = true := by
  refine gd_of ⟨h, PyProof.noPylong_of_log2 (show j.natAbs.log2 < 9000 from ?_)⟩
  have hn : j.natAbs ≠ 0 := by omega
  have := (Nat.log2_lt hn).mpr hb
  omega
theorem divOk_any {i j : Int} (hj : j ≠ 0) (hi : i.natAbs < 2 ^ 13000) : divOk i j = true := by
  refine gd_of ⟨hj, ?_⟩
  by_cases h : j.natAbs.log2 < 9000
  · exact PyProof.noPylong_of_log2 h
  · have h1 : i.natAbs.log2 < 13000 := PySem.Flt.log2_lt_of (by decide) hi
    show (decide ((if j == 0 then 0 else j.natAbs.log2 / 30 + 1) > 300) && decide ((if i == 0 then 0 else i.natAbs.log2 / 30 + 1) > (if j == 0 then 0 else j.natAbs.log2 / 30 + 1) + 150)) = false
    rw [if_neg (show ¬ (j == 0) = true by simpa using hj)]
    have k : ¬ ((if i == 0 then 0 else i.natAbs.log2 / 30 + 1) > j.natAbs.log2 / 30 + 1 + 150) := by
      split <;> omega
    rw [decide_eq_false k, Bool.and_false]
theorem atI_cast {α : Type} (l : List α) (j : Nat) : atI l (j : Int) = l[j]? := by
  unfold atI ixN
  rw [if_pos (Int.natCast_nonneg j)]
  by_cases h : j < l.length
  · rw [if_pos (by omega)]; simp
  · rw [if_neg (by omega)]
    simp only [Option.bind_none]
    exact (List.getElem?_eq_none (by omega)).symm
theorem atI_ofNat {α : Type} (l : List α) (n : Nat) : atI l (OfNat.ofNat n : Int) = l[n]? := atI_cast l n
@[simp] theorem atI_0 {α : Type} (l : List α) : atI l 0 = l[0]? := atI_cast l 0
@[simp] theorem atI_1 {α : Type} (l : List α) : atI l 1 = l[1]? := atI_cast l 1
@[simp] theorem atI_2 {α : Type} (l : List α) : atI l 2 = l[2]? := atI_cast l 2
@[simp] theorem atI_3 {α : Type} (l : List α) : atI l 3 = l[3]? := atI_cast l 3
@[simp] theorem atI_4 {α : Type} (l : List α) : atI l 4 = l[4]? := atI_cast l 4
@[simp] theorem atI_5 {α : Type} (l : List α) : atI l 5 = l[5]? := atI_cast l 5
@[simp] theorem atI_6 {α : Type} (l : List α) : atI l 6 = l[6]? := atI_cast l 6
@[simp] theorem atI_7 {α : Type} (l : List α) : atI l 7 = l[7]? := atI_cast l 7
theorem atI_at {α : Type} {l : List α} {v : Int} (h0 : 0 ≤ v) (h1 : v < l.length) : ∃ (j : Nat) (h : j < l.length), v = j ∧ atI l v = some l[j] := by
  obtain ⟨j, rfl⟩ : ∃ j : Nat, v = j := ⟨v.toNat, (Int.toNat_of_nonneg h0).symm⟩
  exact ⟨j, by omega, rfl, by rw [atI_cast, List.getElem?_eq_getElem (by omega)]⟩
theorem atI_mem {α : Type} {l : List α} {v : Int} (h0 : 0 ≤ v) (h1 : v < l.length) : ∃ x ∈ l, atI l v = some x := by
  obtain ⟨j, h, _, e⟩ := atI_at h0 h1
  exact ⟨_, List.getElem_mem h, e⟩
theorem seq_nx {a : SF} {ρ ρ' : Lc} {S S' : Sto} (h : a ρ S = .nx ρ' S') (b : SF) : sSeq a b ρ S = b ρ' S' := by simp only [sSeq, h]
theorem seq_rt {a : SF} {ρ : Lc} {d : D} {S S' : Sto} (h : a ρ S = .rt d S') (b : SF) : sSeq a b ρ S = .rt d S' := by simp only [sSeq, h]
theorem seq_ex {a : SF} {ρ ρ' : Lc} {c : Str} {S S' : Sto} (h : a ρ S = .ex c ρ' S') (b : SF) : sSeq a b ρ S = .ex c ρ' S' := by simp only [sSeq, h]
theorem oMod_int {i j : Int} (S : Sto) (h : 0 < j) : oMod (.int i) (.int j) S = .ok (.int (i % j)) S := by simp [h]
theorem oPow_int {i j : Int} (S : Sto) (h : 0 ≤ j ∧ j ≤ 1000000 ∧ i.natAbs < 2 ^ 64) : oPow (.int i) (.int j) S = .ok (.int (i ^ j.toNat)) S := by rw [oPow_if, if_pos (gd_of h)]
/-! the store: what is at its end -/
section
variable {S E : Sto} {a x : O} {k : Nat}
@[simp] theorem sto_0 : (S ++ a :: E)[S.length]? = some a := by simp
@[simp] theorem sto_k : (S ++ E)[S.length + k]? = E[k]? := by rw [List.getElem?_append_right (by omega)]; congr 1; omega
@[simp] theorem sto_set0 : (S ++ a :: E).set S.length x = S ++ x :: E := by rw [List.set_append_right _ _ (Nat.le_refl _)]; simp
@[simp] theorem sto_setk : (S ++ E).set (S.length + k) x = S ++ E.set k x := by rw [List.set_append_right _ _ (by omega)]; congr 2; omega
end
@[simp] theorem lstOf_lst (xs : List D) (S : Sto) : lstOf (.lst xs) S = some xs := rfl
theorem lstOf_ob {n : Nat} {xs : List D} {S : Sto} (h : S[n]? = some (.lst xs)) : lstOf (.ob n) S = some xs := by simp only [lstOf, h]
@[simp] theorem lstOf_at {S E : Sto} {xs : List D} : lstOf (.ob S.length) (S ++ .lst xs :: E) = some xs := lstOf_ob sto_0
@[simp] theorem cLen_ob0 {S E : Sto} {xs : List D} : cLen [.ob S.length] (S ++ .lst xs :: E) = .ok (.int xs.length) (S ++ .lst xs :: E) := by simp only [cLen, lstOf_at]
theorem cLen_ob {n : Nat} {xs : List D} {S : Sto} (h : S[n]? = some (.lst xs)) : cLen [.ob n] S = .ok (.int xs.length) S := by simp only [cLen, lstOf_ob h]
@[simp] theorem isD_eq (d : D) (S : Sto) (b : String) : isD d S b = match tyD d S with
  | some t => kitB t b
  | none => none := rfl
end DV
set_option Elab.async false
set_option linter.all false
set_option maxRecDepth 100000
/-! the pen: what is drawn -/
namespace Fx
open PySem L2 DV
def penO (ns : List Int) (p : Int × Int) : O := .lst [.lst (ns.map D.int), .int p.1, .int p.2]
/-- a store with the pen, ahead of all else -/
abbrev Pn (ns : List Int) (p : Int × Int) (T : Sto) : Sto := penO ns p :: T
/-- at most so many draws are behind -/
def Pk (p : Int × Int) (k : Nat) : Prop := 0 ≤ p.1 ∧ p.1 ≤ k
theorem Pk.mono {p : Int × Int} {j k : Nat} (h : Pk p j) (hk : j ≤ k) : Pk p k := ⟨h.1, by have := h.2; omega⟩
theorem frz_ints {n k : Nat} {S : Sto} : ∀ ns : List Int, frzs n S (k + 2) (ns.map D.int) = some (ns.map D.int)
  | [] => by simp [frzs]
  | x :: ns => by
    have := frz_ints (n := n) (k := k) (S := S) ns
    simp only [List.map_cons, frzs, this]
    simp [frz]
theorem fz_pen {n : Nat} {ns : List Int} {p : Int × Int} : Fz n (penO ns p) := fun S => by
  have h := frz_ints (n := n) (k := 36) (S := S) ns
  simp [penO, frzO, frzs, frz, h]
theorem kp_pen {ns : List Int} {p p' : Int × Int} {T : Sto} : Kp (Pn ns p T) (Pn ns p' T) := ⟨by simp, fun i o h => by
  cases i with
  | zero => simp at h; subst h; exact .inr fz_pen
  | succ i => exact .inl (by simpa using h)⟩
theorem modB (x : Int) {p : Int} (hp : 0 < p) : 0 ≤ x % p ∧ x % p < p := ⟨Int.emod_nonneg _ (by omega), Int.emod_lt_of_pos _ hp⟩
theorem p18 : ∀ S, oPow (.int 10) (.int 18) S = .ok (.int 1000000000000000000) S := fun S => by
  have : gd ((0 : Int) ≤ 18 ∧ (18 : Int) ≤ 1000000 ∧ (10 : Int).natAbs < 2 ^ 64) = true := gd_of (by decide)
  simp only [oPow_if, this, if_true]
  rfl
theorem p6 : ∀ S, oPow (.int 10) (.int 6) S = .ok (.int 1000000) S := fun S => by
  have : gd ((0 : Int) ≤ 6 ∧ (6 : Int) ≤ 1000000 ∧ (10 : Int).natAbs < 2 ^ 64) = true := gd_of (by decide)
  simp only [oPow_if, this, if_true]
  rfl
section
variable {ns : List Int} {p : Int × Int} {T : Sto} {m : Int} {k : Nat} {o2 o3 o4 o5 : Option D}
abbrev ρd (m : Int) (o2 o3 o4 o5 : Option D) : Lc := [some (.ob 0), some (.int m), o2, o3, o4, o5]
theorem draw0 (hr : ¬ 0 < p.2) : c_l_draw_0 (ρd m o2 o3 o4 o5) (Pn ns p T) = .nx (ρd m o2 o3 o4 o5) (Pn ns p T) := by
  simp [c_l_draw_0, penO, lstOf, hr]
theorem draw0r (hr : 0 < p.2) (hm : 0 < m) (dm : ∀ x, divOk x m = true) : c_l_draw_0 (ρd m o2 o3 o4 o5) (Pn ns p T) = .rt (.int (p.2 % m)) (Pn ns (p.1, p.2.fdiv m) T) := by
  simp [c_l_draw_0, sSeq, sSub, penO, lstOf, hr, hm, dm, ixN]
theorem draw1 : c_l_draw_1 (ρd m o2 o3 o4 o5) (Pn ns p T) = .nx (ρd m o2 (some (.int p.1)) o4 o5) (Pn ns p T) := by
  simp [c_l_draw_1, penO, lstOf]
theorem draw2 : c_l_draw_2 (ρd m o2 (some (.int p.1)) o4 o5) (Pn ns p T) = .nx (ρd m o2 (some (.int p.1)) o4 o5) (Pn ns (p.1 + 1, p.2) T) := by
  simp [c_l_draw_2, sSub, penO, lstOf, ixN]
theorem draw3 {a : Int} {S : Sto} : c_l_draw_3 (ρd m o2 (some (.int a)) o4 o5) S = .nx (ρd m o2 (some (.int a)) (some (.int 7)) o5) S := by
  simp [c_l_draw_3]
theorem draw4 {a : Int} (h3 : 0 ≤ a) : ∃ c : Int, c_l_draw_4 (ρd m o2 (some (.int a)) (some (.int 7)) o5) (Pn ns p T) = .nx (ρd m o2 (some (.int a)) (some (.int c)) o5) (Pn ns p T) := by
  by_cases hz : 0 < ns.length
  · have hz2 : (0 : Int) < ns.length := by omega
    have hc : ∃ c, atI (ns.map D.int) (a % (ns.length : Int)) = some (.int c) := by
      have h5 := Int.emod_nonneg a (show (ns.length : Int) ≠ 0 by omega)
      have h6 := Int.emod_lt_of_pos a hz2
      obtain ⟨j, hj⟩ : ∃ j : Nat, a % (ns.length : Int) = j := ⟨_, (Int.toNat_of_nonneg h5).symm⟩
      rw [hj, atI_cast, List.getElem?_map, List.getElem?_eq_getElem (by omega)]
      exact ⟨_, rfl⟩
    obtain ⟨c, hc⟩ := hc
    exact ⟨c, by simp [c_l_draw_4, penO, lstOf, hz, hz2, hc]⟩
  · exact ⟨7, by simp [c_l_draw_4, penO, lstOf, hz]⟩
theorem draw5 {a c : Int} (hm : 0 < m) (dm : ∀ x, divOk x m = true) :
    c_l_draw_5 (ρd m o2 (some (.int a)) (some (.int c)) o5) (Pn ns p T) = .nx (ρd m o2 (some (.int a)) (some (.int c)) o5) (Pn ns p T) ∨
    c_l_draw_5 (ρd m o2 (some (.int a)) (some (.int c)) o5) (Pn ns p T) = .rt (.int (c % m)) (Pn ns (p.1, c.fdiv m) T) := by
  by_cases hb1 : a < (ns.length : Int)
  · by_cases hb2 : 1000000000000000000 ≤ c
    · exact .inr (by simp [c_l_draw_5, sSeq, sSub, penO, lstOf, hb1, hb2, p18, hm, dm, ixN, -oPow_if])
    · exact .inl (by simp [c_l_draw_5, penO, lstOf, hb1, hb2, p18, -oPow_if])
  · exact .inl (by simp [c_l_draw_5, penO, lstOf, hb1, -oPow_if])
theorem draw6 {a c : Int} {S : Sto} (h3 : 0 ≤ a) (h4 : a ≤ 1000000000000) : ∃ x : Int, c_l_draw_6 (ρd m o2 (some (.int a)) (some (.int c)) o5) S = .nx (ρd m o2 (some (.int a)) (some (.int c)) (some (.int (x % 2147483647)))) S := by
  have haa : 0 ≤ a * a ∧ a * a ≤ 1000000000000 * 1000000000000 := ⟨Int.mul_nonneg h3 h3, Int.mul_le_mul h4 h4 h3 (by decide)⟩
  have g1 : mulOk (c % 2147483629 + 11) (a * a + 5 * a + 3) = true := by
    have := modB c (p := 2147483629) (by decide)
    exact mulOk_of (a := 40) (b := 90) (by omega) (by omega) (by decide)
  have g2 : mulOk a a = true := mulOk_of (a := 41) (b := 41) (by omega) (by omega) (by decide)
  have g3 : mulOk 5 a = true := mulOk_of (a := 41) (b := 41) (by omega) (by omega) (by decide)
  exact ⟨(c % 2147483629 + 11) * (a * a + 5 * a + 3), by simp [c_l_draw_6, g1, g2, g3]⟩
theorem draw7 {a c x : Int} {S : Sto} (h3 : 0 ≤ a) (h4 : a ≤ 1000000000000) : ∃ y : Int, c_l_draw_7 (ρd m o2 (some (.int a)) (some (.int c)) (some (.int (x % 2147483647)))) S = .nx (ρd m o2 (some (.int a)) (some (.int c)) (some (.int (y % 2147483399)))) S := by
  have h5 := modB x (p := 2147483647) (by decide)
  have g1 : (x % 2147483647).natAbs < 2 ^ 64 := by omega
  have g4 : mulOk 69621 a = true := mulOk_of (a := 41) (b := 41) (by omega) (by omega) (by decide)
  have g5 : ∀ x : Int, mulOk (x % 2147483587) 40692 = true := fun x => by
    have := modB x (p := 2147483587) (by decide)
    exact mulOk_of (a := 41) (b := 41) (by omega) (by omega) (by decide)
  exact ⟨((x % 2147483647) ^ 3 + 69621 * a) % 2147483587 * 40692, by simp [c_l_draw_7, g1, g4, g5, -Int.reducePow, -Nat.reducePow]⟩
theorem draw8 {a c y : Int} {S : Sto} : ∃ z : Int, c_l_draw_8 (ρd m o2 (some (.int a)) (some (.int c)) (some (.int (y % 2147483399)))) S = .nx (ρd m o2 (some (.int a)) (some (.int c)) (some (.int z))) S := by
  have h5 := modB y (p := 2147483399) (by decide)
  have g4 : mulOk (y % 2147483399) 2147483629 = true := mulOk_of (a := 41) (b := 41) (by omega) (by decide) (by decide)
  have g5 : ∀ x : Int, mulOk (x % 1000003) 48271 = true := fun x => by
    have := modB x (p := 1000003) (by decide)
    exact mulOk_of (a := 41) (b := 41) (by omega) (by omega) (by decide)
  by_cases h : 1000000 < m
  · exact ⟨y % 2147483399 * 2147483629 + y % 2147483399 % 1000003 * 48271 % 2147483587, by simp [c_l_draw_8, p6, g4, g5, h, -oPow_if]⟩
  · exact ⟨y % 2147483399, by simp [c_l_draw_8, p6, h, -oPow_if]⟩
theorem draw9 {a c z : Int} {S : Sto} (hm : 0 < m) : c_l_draw_9 (ρd m o2 (some (.int a)) (some (.int c)) (some (.int z))) S = .rt (.int ((z.fdiv 64) % m)) S := by
  have g : ∀ x : Int, divOk x 64 = true := fun x => divOk_of (b := 10) (by decide) (by decide) (by decide)
  simp [c_l_draw_9, g, hm]
theorem draw_eq (h : Pk p k) (hk : k ≤ 1000000000000) (hm : 0 < m) (hm2 : m.natAbs < 2 ^ 200) :
    ∃ v p', F_l_draw [.ob 0, .int m] (Pn ns p T) = .ok (.int v) (Pn ns p' T) ∧ 0 ≤ v ∧ v < m ∧ Pk p' (k + 1) := by
  obtain ⟨h3, h4⟩ := h
  have dm : ∀ x, divOk x m = true := fun x => divOk_of (by omega) hm2 (by decide)
  have fin : ∀ (x : Int) (p' : Int × Int), 0 ≤ p'.1 → p'.1 ≤ p.1 + 1 → b_l_draw (ρd m none none none none) (Pn ns p T) = .rt (.int (x % m)) (Pn ns p' T) →
      ∃ v p', F_l_draw [.ob 0, .int m] (Pn ns p T) = .ok (.int v) (Pn ns p' T) ∧ 0 ≤ v ∧ v < m ∧ Pk p' (k + 1) :=
    fun x p' h5 h6 e => by
      have w : Wp (F_l_draw [.ob 0, .int m] (Pn ns p T)) (fun d S => d = .int (x % m) ∧ S = Pn ns p' T) fun _ _ => False := by
        refine wp_run ?_
        show Ws (b_l_draw (ρd m none none none none) (Pn ns p T)) _
        rw [e]
        exact ⟨Pn ns p' T, [], .int (x % m), by simp, kp_pen, by simp [frz], rfl, rfl⟩
      obtain ⟨d, S, e, rfl, rfl⟩ := w.get
      exact ⟨_, _, e, (modB x hm).1, (modB x hm).2, h5, by omega⟩
  by_cases hr : 0 < p.2
  · refine fin p.2 (p.1, p.2.fdiv m) h3 (by show p.1 ≤ _; omega) ?_
    unfold b_l_draw
    simp only [sSeq, draw0r hr hm dm]
  · obtain ⟨c, e4⟩ := draw4 (ns := ns) (p := (p.1 + 1, p.2)) (T := T) (m := m) (o2 := none) (o5 := none) h3
    have pre : ∀ R, (sSeq c_l_draw_5 (sSeq c_l_draw_6 (sSeq c_l_draw_7 (sSeq c_l_draw_8 c_l_draw_9)))) (ρd m none (some (.int p.1)) (some (.int c)) none) (Pn ns (p.1 + 1, p.2) T) = R → b_l_draw (ρd m none none none none) (Pn ns p T) = R := fun R e => by
      unfold b_l_draw
      simp only [sSeq, draw0 hr, draw1, draw2, draw3, e4]
      simpa only [sSeq] using e
    rcases draw5 (ns := ns) (p := (p.1 + 1, p.2)) (T := T) (m := m) (a := p.1) (c := c) (o2 := none) (o5 := none) hm dm with e5 | e5
    · obtain ⟨x, e6⟩ := draw6 (S := Pn ns (p.1 + 1, p.2) T) (m := m) (a := p.1) (c := c) (o2 := none) (o5 := none) h3 (by omega)
      obtain ⟨y, e7⟩ := draw7 (S := Pn ns (p.1 + 1, p.2) T) (m := m) (a := p.1) (c := c) (x := x) (o2 := none) h3 (by omega)
      obtain ⟨z, e8⟩ := draw8 (S := Pn ns (p.1 + 1, p.2) T) (m := m) (a := p.1) (c := c) (y := y) (o2 := none)
      refine fin (z.fdiv 64) (p.1 + 1, p.2) (by show 0 ≤ p.1 + 1; omega) (Int.le_refl _) (pre _ ?_)
      simp only [sSeq, e5, e6, e7, e8, draw9 hm]
    · refine fin c (p.1 + 1, c.fdiv m) (by show 0 ≤ p.1 + 1; omega) (Int.le_refl _) (pre _ ?_)
      simp only [sSeq, e5]
/-- a draw -/
theorem wp_draw {Q : D → Sto → Prop} {E : Str → Sto → Prop} (h : Pk p k) (hk : k ≤ 1000000000000) (hm : 0 < m) (hm2 : m.natAbs < 2 ^ 200) (q : ∀ v p', 0 ≤ v → v < m → Pk p' (k + 1) → Q (.int v) (Pn ns p' T)) : Wp (F_l_draw [.ob 0, .int m] (Pn ns p T)) Q E := by
  obtain ⟨v, p', e, h1, h2, h3⟩ := draw_eq (ns := ns) (T := T) h hk hm hm2
  rw [e]; exact q v p' h1 h2 h3
end
end Fx
set_option Elab.async false
set_option linter.all false
set_option maxRecDepth 100000
/-! kinds, equality of data -/
namespace DV
open PySem L2
@[simp] theorem kb_NoneType_int : kitB "NoneType" "int" = some false := by decide +kernel
@[simp] theorem kb_NoneType_bool : kitB "NoneType" "bool" = some false := by decide +kernel
@[simp] theorem kb_NoneType_str : kitB "NoneType" "str" = some false := by decide +kernel
@[simp] theorem kb_NoneType_list : kitB "NoneType" "list" = some false := by decide +kernel
@[simp] theorem kb_NoneType_tuple : kitB "NoneType" "tuple" = some false := by decide +kernel
@[simp] theorem kb_bool_int : kitB "bool" "int" = some true := by decide +kernel
@[simp] theorem kb_bool_bool : kitB "bool" "bool" = some true := by decide +kernel
@[simp] theorem kb_bool_str : kitB "bool" "str" = some false := by decide +kernel
@[simp] theorem kb_bool_list : kitB "bool" "list" = some false := by decide +kernel
@[simp] theorem kb_bool_tuple : kitB "bool" "tuple" = some false := by decide +kernel
@[simp] theorem kb_int_int : kitB "int" "int" = some true := by decide +kernel
@[simp] theorem kb_int_bool : kitB "int" "bool" = some false := by decide +kernel
@[simp] theorem kb_int_str : kitB "int" "str" = some false := by decide +kernel
@[simp] theorem kb_int_list : kitB "int" "list" = some false := by decide +kernel
@[simp] theorem kb_int_tuple : kitB "int" "tuple" = some false := by decide +kernel
@[simp] theorem kb_str_int : kitB "str" "int" = some false := by decide +kernel
@[simp] theorem kb_str_bool : kitB "str" "bool" = some false := by decide +kernel
@[simp] theorem kb_str_str : kitB "str" "str" = some true := by decide +kernel
@[simp] theorem kb_str_list : kitB "str" "list" = some false := by decide +kernel
@[simp] theorem kb_str_tuple : kitB "str" "tuple" = some false := by decide +kernel
@[simp] theorem kb_tuple_int : kitB "tuple" "int" = some false := by decide +kernel
@[simp] theorem kb_tuple_bool : kitB "tuple" "bool" = some false := by decide +kernel
@[simp] theorem kb_tuple_str : kitB "tuple" "str" = some false := by decide +kernel
@[simp] theorem kb_tuple_list : kitB "tuple" "list" = some false := by decide +kernel
@[simp] theorem kb_tuple_tuple : kitB "tuple" "tuple" = some true := by decide +kernel
@[simp] theorem kb_list_int : kitB "list" "int" = some false := by decide +kernel
@[simp] theorem kb_list_bool : kitB "list" "bool" = some false := by decide +kernel
@[simp] theorem kb_list_str : kitB "list" "str" = some false := by decide +kernel
@[simp] theorem kb_list_list : kitB "list" "list" = some true := by decide +kernel
@[simp] theorem kb_list_tuple : kitB "list" "tuple" = some false := by decide +kernel
@[simp] theorem kb_dict_int : kitB "dict" "int" = some false := by decide +kernel
@[simp] theorem kb_dict_bool : kitB "dict" "bool" = some false := by decide +kernel
@[simp] theorem kb_dict_str : kitB "dict" "str" = some false := by decide +kernel
@[simp] theorem kb_dict_list : kitB "dict" "list" = some false := by decide +kernel
@[simp] theorem kb_dict_tuple : kitB "dict" "tuple" = some false := by decide +kernel
@[simp] theorem tyD_non (S : Sto) : tyD .non S = some "NoneType" := rfl
@[simp] theorem tyD_bl (b : Bool) (S : Sto) : tyD (.bl b) S = some "bool" := rfl
@[simp] theorem tyD_int (b : Int) (S : Sto) : tyD (.int b) S = some "int" := rfl
@[simp] theorem tyD_str (b : Str) (S : Sto) : tyD (.str b) S = some "str" := rfl
@[simp] theorem tyD_tup (b : List D) (S : Sto) : tyD (.tup b) S = some "tuple" := rfl
theorem tyD_ob {n : Nat} {xs : List D} {S : Sto} (h : S[n]? = some (.lst xs)) : tyD (.ob n) S = some "list" := by simp only [tyD, h]
theorem tyD_dic {n : Nat} {xs : List (Key × D)} {S : Sto} (h : S[n]? = some (.dic xs)) : tyD (.ob n) S = some "dict" := by simp only [tyD, h]
@[simp] theorem tyD_lst (b : List D) (S : Sto) : tyD (.lst b) S = some "list" := rfl
@[simp] theorem tyD_dct (b : List (Key × D)) (S : Sto) : tyD (.dct b) S = some "dict" := rfl
/-! equality of flat data -/
theorem shaped_of {d : PyData} (h1 : d.canLay0 = true) (h2 : d.depth ≤ 64) : SeqAt.shaped d = true := Bool.and_eq_true_iff.mpr ⟨h1, decide_eq_true h2⟩
@[simp] theorem shaped_bool (b : Bool) : SeqAt.shaped (.bool b) = true := by simp [SeqAt.shaped, PyData.canLay0, PyData.depth]
@[simp] theorem shaped_int (b : Int) : SeqAt.shaped (.int b) = true := by simp [SeqAt.shaped, PyData.canLay0, PyData.depth]
@[simp] theorem oEqG_bl2 (n a b : Bool) (S : Sto) : oEqG n (.bl a) (.bl b) S = .ok (.bl ((a == b) != n)) S := by
  simp [oEqG, pyOf, PyData.eqv]
@[simp] theorem oEqG_int2 (n : Bool) (a b : Int) (S : Sto) : oEqG n (.int a) (.int b) S = .ok (.bl ((a == b) != n)) S := by
  simp [oEqG, pyOf, PyData.eqv]
@[simp] theorem oEq_bl2 (a b : Bool) (S : Sto) : oEq (.bl a) (.bl b) S = .ok (.bl (a == b)) S := by simp [oEq]
@[simp] theorem oNe_bl2 (a b : Bool) (S : Sto) : oNe (.bl a) (.bl b) S = .ok (.bl (a != b)) S := by simp [oNe, bne]
@[simp] theorem oEq_int2 (a b : Int) (S : Sto) : oEq (.int a) (.int b) S = .ok (.bl (a == b)) S := by simp [oEq]
@[simp] theorem oNe_int2 (a b : Int) (S : Sto) : oNe (.int a) (.int b) S = .ok (.bl (a != b)) S := by simp [oNe, bne]
@[simp] theorem oIs_bl (d : D) (b : Bool) (S : Sto) : oIs d (.bl b) S = .ok (.bl (isBlD b d)) S := by simp [oIs, oIsG]
@[simp] theorem oIsnt_bl (d : D) (b : Bool) (S : Sto) : oIsnt d (.bl b) S = .ok (.bl (!isBlD b d)) S := by simp [oIsnt, oIsG]
@[simp] theorem oIsnt_non (d : D) (S : Sto) : oIsnt d .non S = match isNonD d with | some k => .ok (.bl (!k)) S | none => .no := by unfold oIsnt oIsG; cases isNonD d <;> simp
@[simp] theorem isBl_bl (b c : Bool) : isBlD b (.bl c) = decide (c = b) := rfl
@[simp] theorem isBl_int (b : Bool) (i : Int) : isBlD b (.int i) = false := rfl
@[simp] theorem isBl_non (b : Bool) : isBlD b .non = false := rfl
@[simp] theorem isBl_str (b : Bool) (s : Str) : isBlD b (.str s) = false := rfl
@[simp] theorem isBl_tup (b : Bool) (s : List D) : isBlD b (.tup s) = false := rfl
@[simp] theorem isBl_lst (b : Bool) (s : List D) : isBlD b (.lst s) = false := rfl
@[simp] theorem isBl_dct (b : Bool) (s : List (Key × D)) : isBlD b (.dct s) = false := rfl
@[simp] theorem isBl_ob (b : Bool) (s : Nat) : isBlD b (.ob s) = false := rfl
@[simp] theorem oIs_non (d : D) (S : Sto) : oIs d .non S = match isNonD d with | some k => .ok (.bl k) S | none => .no := by unfold oIs oIsG; cases isNonD d <;> simp
@[simp] theorem isNon_bl (b : Bool) : isNonD (.bl b) = some false := rfl
@[simp] theorem isNon_int (b : Int) : isNonD (.int b) = some false := rfl
@[simp] theorem isNon_str (b : Str) : isNonD (.str b) = some false := rfl
@[simp] theorem isNon_tup (b : List D) : isNonD (.tup b) = some false := rfl
@[simp] theorem isNon_ob (b : Nat) : isNonD (.ob b) = some false := rfl
@[simp] theorem isNon_lst (b : List D) : isNonD (.lst b) = some false := rfl
@[simp] theorem isNon_exc (b : Str) : isNonD (.exc b) = some false := rfl
@[simp] theorem isNon_dct (b : List (Key × D)) : isNonD (.dct b) = some false := rfl
@[simp] theorem isNon_non : isNonD .non = some true := rfl

/-! ### data whose == is to be one: no truths, no dicts -/
mutual
def Cn : Nat → D → Prop
  | 0, _ => False
  | k + 1, .tup xs => Cns k xs
  | k + 1, .lst xs => Cns k xs
  | _ + 1, .non => True
  | _ + 1, .int _ => True
  | _ + 1, .str s => PyData.strOk s = true
  | _ + 1, _ => False
def Cns : Nat → List D → Prop
  | _, [] => True
  | 0, _ :: _ => False
  | k + 1, d :: ds => Cn k d ∧ Cns (k + 1) ds
end
theorem cns_iff {k : Nat} : ∀ {ds : List D}, Cns (k + 1) ds ↔ ∀ d ∈ ds, Cn k d
  | [] => by simp [Cns]
  | d :: ds => by simp [Cns, cns_iff (k := k) (ds := ds)]
mutual
theorem Cn.up : ∀ {k : Nat} {d : D}, Cn k d → Cn (k + 1) d
  | 0, _, h => by simp [Cn] at h
  | k + 1, .tup xs, h => by simp only [Cn] at h ⊢; exact Cns.up h
  | k + 1, .lst xs, h => by simp only [Cn] at h ⊢; exact Cns.up h
  | _ + 1, .non, _ => by simp [Cn]
  | _ + 1, .int _, _ => by simp [Cn]
  | _ + 1, .str _, h => by simp only [Cn] at h ⊢; exact h
  | _ + 1, .bl _, h => by simp [Cn] at h
  | _ + 1, .ob _, h => by simp [Cn] at h
  | _ + 1, .dct _, h => by simp [Cn] at h
  | _ + 1, .dtt _, h => by simp [Cn] at h
  | _ + 1, .ins _ _ _, h => by simp [Cn] at h
  | _ + 1, .exc _, h => by simp [Cn] at h
  | _ + 1, .ro _, h => by simp [Cn] at h
  | _ + 1, .gl _, h => by simp [Cn] at h
theorem Cns.up : ∀ {k : Nat} {ds : List D}, Cns k ds → Cns (k + 1) ds
  | _, [], _ => by simp [Cns]
  | 0, _ :: _, h => by simp [Cns] at h
  | k + 1, d :: ds, h => by
    simp only [Cns] at h ⊢
    exact ⟨h.1.up, h.2.up⟩
end
theorem Cn.le {d : D} {k j : Nat} (h : Cn k d) (hj : k ≤ j) : Cn j d := by
  induction hj with
  | refl => exact h
  | step _ ih => exact ih.up
theorem Cns.le {d : List D} {k j : Nat} (h : Cns k d) (hj : k ≤ j) : Cns j d := by
  induction hj with
  | refl => exact h
  | step _ ih => exact ih.up
mutual
theorem Cn.pl : ∀ {k : Nat} {d : D}, Cn k d → Pl k d
  | 0, _, h => by simp [Cn] at h
  | k + 1, .tup xs, h => by simp only [Cn, Pl] at h ⊢; exact Cns.pl h
  | k + 1, .lst xs, h => by simp only [Cn, Pl] at h ⊢; exact Cns.pl h
  | _ + 1, .non, _ => by simp [Pl]
  | _ + 1, .int _, _ => by simp [Pl]
  | _ + 1, .str _, h => by simp [Pl]
  | _ + 1, .bl _, h => by simp [Cn] at h
  | _ + 1, .ob _, h => by simp [Cn] at h
  | _ + 1, .dct _, h => by simp [Cn] at h
  | _ + 1, .dtt _, h => by simp [Cn] at h
  | _ + 1, .ins _ _ _, h => by simp [Cn] at h
  | _ + 1, .exc _, h => by simp [Cn] at h
  | _ + 1, .ro _, h => by simp [Cn] at h
  | _ + 1, .gl _, h => by simp [Cn] at h
theorem Cns.pl : ∀ {k : Nat} {ds : List D}, Cns k ds → Pls k ds
  | _, [], _ => by simp [Pls]
  | 0, _ :: _, h => by simp [Cns] at h
  | k + 1, d :: ds, h => by
    simp only [Cns, Pls] at h ⊢
    exact ⟨h.1.pl, h.2.pl⟩
end
mutual
theorem cn_py : ∀ {k : Nat} {d : D}, Cn k d → ∃ e, (∀ S, pyOf k S d = some e) ∧ e.canLay0 = true ∧ e.depth ≤ k
  | 0, _, h => by simp [Cn] at h
  | k + 1, .tup xs, h => by
    simp only [Cn] at h
    obtain ⟨es, h1, h2, h3⟩ := cns_py h
    exact ⟨.tuple es, fun S => by simp only [pyOf, h1 S, Option.map_some], by simpa [PyData.canLay0] using h2, by simp only [PyData.depth]; omega⟩
  | k + 1, .lst xs, h => by
    simp only [Cn] at h
    obtain ⟨es, h1, h2, h3⟩ := cns_py h
    exact ⟨.list es, fun S => by simp only [pyOf, h1 S, Option.map_some], by simpa [PyData.canLay0] using h2, by simp only [PyData.depth]; omega⟩
  | _ + 1, .non, _ => ⟨.none, fun S => by simp [pyOf], by simp [PyData.canLay0], by simp [PyData.depth]⟩
  | _ + 1, .int i, _ => ⟨.int i, fun S => by simp [pyOf], by simp [PyData.canLay0], by simp [PyData.depth]⟩
  | _ + 1, .str s, h => ⟨.str s, fun S => by simp [pyOf], by simp only [Cn] at h; simpa [PyData.canLay0] using h, by simp [PyData.depth]⟩
  | _ + 1, .bl _, h => by simp [Cn] at h
  | _ + 1, .ob _, h => by simp [Cn] at h
  | _ + 1, .dct _, h => by simp [Cn] at h
  | _ + 1, .dtt _, h => by simp [Cn] at h
  | _ + 1, .ins _ _ _, h => by simp [Cn] at h
  | _ + 1, .exc _, h => by simp [Cn] at h
  | _ + 1, .ro _, h => by simp [Cn] at h
  | _ + 1, .gl _, h => by simp [Cn] at h
theorem cns_py : ∀ {k : Nat} {ds : List D}, Cns k ds → ∃ es, (∀ S, pyOf.pyAll (pyOf k S) ds = some es) ∧ PyData.canLayAll0 es = true ∧ PyData.depthAll es ≤ k
  | _, [], _ => ⟨[], fun S => by simp [pyOf.pyAll], by simp [PyData.canLayAll0], by simp [PyData.depthAll]⟩
  | 0, _ :: _, h => by simp [Cns] at h
  | k + 1, d :: ds, h => by
    simp only [Cns] at h
    obtain ⟨e, h1, h2, h3⟩ := cn_py h.1.up
    obtain ⟨es, h4, h5, h6⟩ := cns_py h.2
    exact ⟨e :: es, fun S => by simp only [pyOf.pyAll, h1 S, h4 S], by simp [PyData.canLayAll0, h2, h5], by simp only [PyData.depthAll]; omega⟩
end
mutual
theorem cn_eqv {S : Sto} : ∀ {k : Nat} {a b : D} {x y : PyData}, Cn k a → Cn k b → pyOf k S a = some x → pyOf k S b = some y → (PyData.eqv x y = true ↔ a = b)
  | 0, _, _, _, _, h, _, _, _ => by simp [Cn] at h
  | k + 1, a, b, x, y, ha, hb, hx, hy => by
    cases a <;> simp only [Cn] at ha <;> cases b <;> simp only [Cn] at hb <;> simp only [pyOf, Option.map_eq_some_iff, Option.some.injEq] at hx hy
    case tup.tup xs ys =>
      obtain ⟨us, h1, rfl⟩ := hx
      obtain ⟨vs, h2, rfl⟩ := hy
      simp only [PyData.eqv, D.tup.injEq]
      exact cns_eqv ha hb h1 h2
    case lst.lst xs ys =>
      obtain ⟨us, h1, rfl⟩ := hx
      obtain ⟨vs, h2, rfl⟩ := hy
      simp only [PyData.eqv, D.lst.injEq]
      exact cns_eqv ha hb h1 h2
    all_goals first
      | (obtain ⟨us, h1, rfl⟩ := hx; obtain ⟨vs, h2, rfl⟩ := hy; simp [PyData.eqv])
      | (obtain ⟨us, h1, rfl⟩ := hx; subst hy; simp [PyData.eqv])
      | (obtain ⟨vs, h2, rfl⟩ := hy; subst hx; simp [PyData.eqv])
      | (subst hx; subst hy; simp [PyData.eqv])
theorem cns_eqv {S : Sto} : ∀ {k : Nat} {as bs : List D} {xs ys : List PyData}, Cns k as → Cns k bs → pyOf.pyAll (pyOf k S) as = some xs → pyOf.pyAll (pyOf k S) bs = some ys → (PyData.eqvAll xs ys = true ↔ as = bs)
  | _, [], [], xs, ys, _, _, hx, hy => by simp [pyOf.pyAll] at hx hy; subst hx; subst hy; simp [PyData.eqvAll]
  | k, [], b :: bs, xs, ys, _, _, hx, hy => by
    simp only [pyOf.pyAll] at hx hy
    split at hy
    · cases hx; cases hy; simp [PyData.eqvAll]
    · cases hy
  | k, a :: as, [], xs, ys, _, _, hx, hy => by
    simp only [pyOf.pyAll] at hx hy
    split at hx
    · cases hx; cases hy; simp [PyData.eqvAll]
    · cases hx
  | 0, _ :: _, _ :: _, _, _, h, _, _, _ => by simp [Cns] at h
  | k + 1, a :: as, b :: bs, xs, ys, ha, hb, hx, hy => by
    simp only [Cns] at ha hb
    simp only [pyOf.pyAll] at hx hy
    split at hx
    · rename_i x xs' h1 h2
      split at hy
      · rename_i y ys' h3 h4
        cases hx; cases hy
        simp only [PyData.eqvAll, Bool.and_eq_true, List.cons.injEq]
        obtain ⟨e, g1, _, _⟩ := cn_py ha.1
        obtain ⟨e', g2, _, _⟩ := cn_py hb.1
        obtain ⟨u, k1, _, _⟩ := cn_py ha.1.up
        obtain ⟨u', k2, _, _⟩ := cn_py hb.1.up
        rw [cn_eqv ha.1.up hb.1.up h1 h3, cns_eqv ha.2 hb.2 h2 h4]
      · cases hy
    · cases hx
end
theorem oEq_cn {a b : D} {S : Sto} (ha : Cn 40 a) (hb : Cn 40 b) : oEq a b S = .ok (.bl (gd (a = b))) S := by
  obtain ⟨x, h1, h2, h3⟩ := cn_py ha
  obtain ⟨y, h4, h5, h6⟩ := cn_py hb
  have e := cn_eqv ha hb (h1 S) (h4 S)
  have z : PyData.eqv x y = gd (a = b) := by
    by_cases h : a = b
    · rw [gd_of h, e.mpr h]
    · have : gd (a = b) = false := by
        cases q : gd (a = b) with
        | true => exact absurd (of_gd q) h
        | false => rfl
      rw [this]
      cases q : PyData.eqv x y with
      | true => exact absurd (e.mp q) h
      | false => rfl
  unfold oEq oEqG
  rw [h1 S, h4 S]
  simp only [shaped_of h2 (by omega), shaped_of h5 (by omega), Bool.and_self, if_true, z, Bool.bne_false]
theorem oNe_cn {a b : D} {S : Sto} (ha : Cn 40 a) (hb : Cn 40 b) : oNe a b S = .ok (.bl (!gd (a = b))) S := by
  have := oEq_cn (S := S) ha hb
  unfold oEq oEqG at this
  unfold oNe oEqG
  split at this
  · split at this
    · rename_i h
      simp only [Bool.bne_false, Res.ok.injEq, D.bl.injEq, and_true] at this
      rw [if_pos h, this, Bool.bne_true]
    · cases this
  · cases this
end DV
set_option Elab.async false
set_option linter.all false
set_option maxRecDepth 100000
set_option exponentiation.threshold 20000
/-! fractions: the program's and the law's -/
namespace Fx
open PySem L2 DV
/-- a fraction as data -/
def fq (q : Rat) : D := .tup [.int q.num, .int q.den]
/-- numbers of at most n bits -/
def Bq (n : Nat) (q : Rat) : Prop := q.num.natAbs < 2 ^ n ∧ q.den < 2 ^ n
theorem Bq.mono {n m : Nat} {q : Rat} (h : Bq n q) (hm : n ≤ m) : Bq m q :=
  ⟨Nat.lt_of_lt_of_le h.1 (Nat.pow_le_pow_right (by decide) hm), Nat.lt_of_lt_of_le h.2 (Nat.pow_le_pow_right (by decide) hm)⟩
/-- the two forms of a quotient by the greatest common divisor -/
theorem low_pos {a b : Int} (hb : 0 < b) : a.fdiv (Nat.gcd a.natAbs b.natAbs : Nat) = (Rat.divInt a b).num ∧ b.fdiv (Nat.gcd a.natAbs b.natAbs : Nat) = ((Rat.divInt a b).den : Int) := by
  rw [Rat.num_divInt, Rat.den_divInt, if_neg (by omega), Int.sign_eq_one_of_pos hb, Int.one_mul]
  have e : (Int.gcd b a : Int) = (Nat.gcd a.natAbs b.natAbs : Nat) := by rw [Int.gcd, Nat.gcd_comm]
  rw [e, Int.fdiv_eq_ediv_of_nonneg _ (Int.natCast_nonneg _), Int.fdiv_eq_ediv_of_nonneg _ (Int.natCast_nonneg _)]
  refine ⟨rfl, ?_⟩
  rw [Int.gcd, Nat.gcd_comm, Int.natCast_ediv]
  congr 1
  omega
theorem low_neg {a b : Int} (hb : b < 0) : a.fdiv (-((Nat.gcd a.natAbs b.natAbs : Nat) : Int)) = (Rat.divInt a b).num ∧ b.fdiv (-((Nat.gcd a.natAbs b.natAbs : Nat) : Int)) = ((Rat.divInt a b).den : Int) := by
  have d1 : ((Nat.gcd a.natAbs b.natAbs : Nat) : Int) ∣ a := Int.ofNat_dvd_left.mpr (Nat.gcd_dvd_left _ _)
  have d2 : ((Nat.gcd a.natAbs b.natAbs : Nat) : Int) ∣ b := Int.ofNat_dvd_left.mpr (Nat.gcd_dvd_right _ _)
  rw [Int.fdiv_eq_ediv_of_dvd (Int.neg_dvd.mpr d1), Int.fdiv_eq_ediv_of_dvd (Int.neg_dvd.mpr d2), Int.ediv_neg, Int.ediv_neg, ← Int.neg_ediv_of_dvd d1, ← Int.neg_ediv_of_dvd d2]
  have e : Rat.divInt a b = Rat.divInt (-a) (-b) := (Rat.neg_divInt_neg a b).symm
  have := low_pos (a := -a) (b := -b) (by omega)
  rw [Int.natAbs_neg, Int.natAbs_neg, Int.fdiv_eq_ediv_of_nonneg _ (Int.natCast_nonneg _), Int.fdiv_eq_ediv_of_nonneg _ (Int.natCast_nonneg _)] at this
  rw [e]
  exact this
theorem gcd_ne {a b : Int} (hb : b ≠ 0) : ((Nat.gcd a.natAbs b.natAbs : Nat) : Int) ≠ 0 := by
  intro h
  have h2 : Nat.gcd a.natAbs b.natAbs = 0 := by exact_mod_cast h
  have := Nat.eq_zero_of_gcd_eq_zero_right h2
  omega
theorem lowest_ok {a b : Int} (S : Sto) (hb : b ≠ 0) (ha2 : a.natAbs < 2 ^ 13000) (hb2 : b.natAbs < 2 ^ 13000) : F_in_lowest_terms [.int a, .int b] S = .ok (fq (Rat.divInt a b)) S := by
  have hg := gcd_ne (a := a) hb
  by_cases h : b < 0
  · have e := low_neg (a := a) h
    have hg' : -((Nat.gcd a.natAbs b.natAbs : Nat) : Int) ≠ 0 := by omega
    unfold F_in_lowest_terms b_in_lowest_terms
    refine run_eq0 ?_ (by simp [Pl, Pls, fq])
    rw [seq_nx (ρ' := [some (.int a), some (.int b), some (.int (Nat.gcd a.natAbs b.natAbs : Nat))]) (S' := S) (by simp [c_in_lowest_terms_0]), seq_nx (ρ' := [some (.int a), some (.int b), some (.int (-(Nat.gcd a.natAbs b.natAbs : Nat)))]) (S' := S) (by simp [c_in_lowest_terms_1, h])]
    simp [c_in_lowest_terms_2, oDiv_int _ (divOk_any hg' ha2), oDiv_int _ (divOk_any hg' hb2), fq, e.1, e.2]
  · have e := low_pos (a := a) (b := b) (by omega)
    unfold F_in_lowest_terms b_in_lowest_terms
    refine run_eq0 ?_ (by simp [Pl, Pls, fq])
    rw [seq_nx (ρ' := [some (.int a), some (.int b), some (.int (Nat.gcd a.natAbs b.natAbs : Nat))]) (S' := S) (by simp [c_in_lowest_terms_0]), seq_nx (ρ' := [some (.int a), some (.int b), some (.int (Nat.gcd a.natAbs b.natAbs : Nat))]) (S' := S) (by simp [c_in_lowest_terms_1, h])]
    simp [c_in_lowest_terms_2, oDiv_int _ (divOk_any hg ha2), oDiv_int _ (divOk_any hg hb2), fq, e.1, e.2]
theorem euclid (o0 o1 : Option D) (S : Sto) : ∀ (n : Nat) (x y : Nat), y ≤ n →
    whGo (tTru (eOp oGt (eVar 3) (eC (.int 0)))) c_l_low_1_0 n [o0, o1, some (.int x), some (.int y)] S = .nx [o0, o1, some (.int (Nat.gcd x y : Nat)), some (.int 0)] S
  | n, x, 0, _ => by unfold whGo; simp
  | 0, x, y + 1, h => by omega
  | n + 1, x, y + 1, h => by
    have h1 : (0 : Int) < ((y + 1 : Nat) : Int) := by omega
    have e : c_l_low_1_0 [o0, o1, some (.int x), some (.int ((y + 1 : Nat) : Int))] S = .nx [o0, o1, some (.int ((y + 1 : Nat) : Int)), some (.int ((x % (y + 1) : Nat) : Int))] S := by
      simp only [c_l_low_1_0, sPar_eq, aCons_eq, aNil_eq, eVar_s, eVar_0, bind_ok, sb_ok, eOp_eq, oMod_int _ h1, List.set_cons_succ, List.set_cons_zero]
      rfl
    unfold whGo
    simp only [tTru_eq, eOp_eq, eVar_s, eVar_0, bind_ok, eC_eq, oGt_int, decide_eq_true h1, truD_bl, sb_ok, if_true, e]
    rw [euclid o0 o1 S n (y + 1) (x % (y + 1)) (by have := Nat.mod_lt x (show 0 < y + 1 by omega); omega)]
    rw [Nat.gcd_comm (y + 1), ← Nat.gcd_rec, Nat.gcd_comm]
theorem abs_nat (i : Int) : (if i < 0 then -i else i) = (i.natAbs : Int) := by split <;> omega
theorem l_low_ok {a b : Int} (S : Sto) (hb : b ≠ 0) (ha2 : a.natAbs < 2 ^ 13000) (hb2 : b.natAbs < 2 ^ 13000) : F_l_low [.int a, .int b] S = .ok (fq (Rat.divInt a b)) S := by
  have hg := gcd_ne (a := a) hb
  have ha3 : (0 - a).natAbs < 2 ^ 13000 := by rw [show (0 - a).natAbs = a.natAbs by omega]; exact ha2
  have hb3 : (0 - b).natAbs < 2 ^ 13000 := by rw [show (0 - b).natAbs = b.natAbs by omega]; exact hb2
  unfold F_l_low b_l_low
  refine run_eq0 ?_ (by simp [Pl, Pls, fq])
  rw [seq_nx (ρ' := [some (.int a), some (.int b), some (.int (a.natAbs : Int)), some (.int (b.natAbs : Int))]) (S' := S) (by simp [c_l_low_0, abs_nat])]
  rw [seq_nx (ρ' := [some (.int a), some (.int b), some (.int (Nat.gcd a.natAbs b.natAbs : Nat)), some (.int 0)]) (S' := S) (by
    unfold c_l_low_1 sWh
    exact euclid _ _ S _ a.natAbs b.natAbs (by simp [fu_l_low_0]))]
  by_cases h : b < 0
  · have e := low_neg (a := a) h
    rw [seq_nx (ρ' := [some (.int (0 - a)), some (.int (0 - b)), some (.int (Nat.gcd a.natAbs b.natAbs : Nat)), some (.int 0)]) (S' := S) (by simp [c_l_low_2, h])]
    have d1 : ((Nat.gcd a.natAbs b.natAbs : Nat) : Int) ∣ a := Int.ofNat_dvd_left.mpr (Nat.gcd_dvd_left _ _)
    have d2 : ((Nat.gcd a.natAbs b.natAbs : Nat) : Int) ∣ b := Int.ofNat_dvd_left.mpr (Nat.gcd_dvd_right _ _)
    have e1 : (0 - a).fdiv (Nat.gcd a.natAbs b.natAbs : Nat) = (Rat.divInt a b).num := by
      rw [← e.1, Int.fdiv_eq_ediv_of_dvd (Int.neg_dvd.mpr d1), Int.ediv_neg, Int.zero_sub, Int.fdiv_eq_ediv_of_dvd (Int.dvd_neg.mpr d1), Int.neg_ediv_of_dvd d1]
    have e2 : (0 - b).fdiv (Nat.gcd a.natAbs b.natAbs : Nat) = ((Rat.divInt a b).den : Int) := by
      rw [← e.2, Int.fdiv_eq_ediv_of_dvd (Int.neg_dvd.mpr d2), Int.ediv_neg, Int.zero_sub, Int.fdiv_eq_ediv_of_dvd (Int.dvd_neg.mpr d2), Int.neg_ediv_of_dvd d2]
    simp only [c_l_low_3, sRet_eq, eTup_eq, aCons_eq, aNil_eq, eOp_eq, eVar_s, eVar_0, bind_ok, oDiv_int _ (divOk_any hg ha3), oDiv_int _ (divOk_any hg hb3), e1, e2, fq, sb_ok]
    rw [if_pos (by rw [szOk_le]; simp)]
    rfl
  · have e := low_pos (a := a) (b := b) (by omega)
    rw [seq_nx (ρ' := [some (.int a), some (.int b), some (.int (Nat.gcd a.natAbs b.natAbs : Nat)), some (.int 0)]) (S' := S) (by simp [c_l_low_2, h])]
    simp [c_l_low_3, oDiv_int _ (divOk_any hg ha2), oDiv_int _ (divOk_any hg hb2), fq, e.1, e.2]
theorem Bq_divInt {a b : Int} {n : Nat} (hb : b ≠ 0) (ha : a.natAbs < 2 ^ n) (hb2 : b.natAbs < 2 ^ n) : Bq n (Rat.divInt a b) := by
  constructor
  · rw [Rat.num_divInt]
    refine Nat.lt_of_le_of_lt (Int.natAbs_ediv_le_natAbs _ _) ?_
    rw [Int.natAbs_mul]
    have : b.sign.natAbs = 1 := by rw [Int.natAbs_sign, if_neg hb]
    rw [this, Nat.one_mul]
    exact ha
  · rw [Rat.den_divInt, if_neg hb]
    exact Nat.lt_of_le_of_lt (Nat.div_le_self _ _) hb2
theorem den_ne (q : Rat) : (q.den : Int) ≠ 0 := by
  have := q.den_nz
  omega
theorem mul_lt {i j : Int} {a b : Nat} (ha : i.natAbs < 2 ^ a) (hb : j.natAbs < 2 ^ b) : (i * j).natAbs < 2 ^ (a + b) := wide_lt ha hb
theorem pow_mono {x n m : Nat} (h : x < 2 ^ n) (hm : n ≤ m) : x < 2 ^ m := Nat.lt_of_lt_of_le h (Nat.pow_le_pow_right (by decide) hm)
theorem add_lt {i j : Int} {n : Nat} (ha : i.natAbs < 2 ^ n) (hb : j.natAbs < 2 ^ n) : (i + j).natAbs < 2 ^ (n + 1) := by
  rw [Nat.pow_succ]; omega
theorem sub_lt {i j : Int} {n : Nat} (ha : i.natAbs < 2 ^ n) (hb : j.natAbs < 2 ^ n) : (i - j).natAbs < 2 ^ (n + 1) := by
  rw [Nat.pow_succ]; omega
theorem den_abs (q : Rat) : (q.den : Int).natAbs = q.den := Int.natAbs_natCast _
section
variable {p q : Rat} {n m : Nat}
theorem dd_ne : (p.den : Int) * (q.den : Int) ≠ 0 := by
  have := den_ne p
  have := den_ne q
  exact Int.mul_ne_zero (by assumption) (by assumption)
/-- what is asked of the numbers of a sum -/
theorem sum_ok (hp : Bq n p) (hq : Bq m q) : (p.num * q.den + q.num * p.den).natAbs < 2 ^ (n + m + 1) ∧ (p.num * q.den - q.num * p.den).natAbs < 2 ^ (n + m + 1) ∧ ((p.den : Int) * (q.den : Int)).natAbs < 2 ^ (n + m + 1) ∧ ((p.den : Int) * (q.den : Int)).natAbs < 2 ^ (n + m) ∧ (p.num * q.num).natAbs < 2 ^ (n + m) ∧
    mulOk p.num q.den = mulOk p.num q.den := by
  have h1 : (p.num * (q.den : Int)).natAbs < 2 ^ (n + m) := mul_lt hp.1 (by rw [den_abs]; exact hq.2)
  have h2 : (q.num * (p.den : Int)).natAbs < 2 ^ (n + m) := by rw [Nat.add_comm]; exact mul_lt hq.1 (by rw [den_abs]; exact hp.2)
  have h3 : ((p.den : Int) * (q.den : Int)).natAbs < 2 ^ (n + m) := mul_lt (by rw [den_abs]; exact hp.2) (by rw [den_abs]; exact hq.2)
  exact ⟨add_lt h1 h2, sub_lt h1 h2, pow_mono h3 (by omega), h3, mul_lt hp.1 hq.1, rfl⟩
theorem mok (hp : Bq n p) (hq : Bq m q) (h : n + m ≤ 100000) : mulOk p.num q.den = true ∧ mulOk q.num p.den = true ∧ mulOk (p.den : Int) q.den = true ∧ mulOk p.num q.num = true :=
  ⟨mulOk_of hp.1 (by rw [den_abs]; exact hq.2) (by omega), mulOk_of hq.1 (by rw [den_abs]; exact hp.2) (by omega), mulOk_of (by rw [den_abs]; exact hp.2) (by rw [den_abs]; exact hq.2) (by omega), mulOk_of hp.1 hq.1 (by omega)⟩
theorem add_eq : Rat.divInt (p.num * q.den + q.num * p.den) (p.den * q.den) = p + q := by
  rw [Rat.add_def', ← Rat.divInt_ofNat]; rfl
theorem sub_eq : Rat.divInt (p.num * q.den - q.num * p.den) (p.den * q.den) = p - q := by
  rw [Rat.sub_def', ← Rat.divInt_ofNat]; rfl
theorem mul_eq : Rat.divInt (p.num * q.num) (p.den * q.den) = p * q := by
  rw [Rat.mul_def', ← Rat.divInt_ofNat]; rfl
theorem Bq_add (hp : Bq n p) (hq : Bq m q) : Bq (n + m + 1) (p + q) := by
  obtain ⟨h1, h2, h3, h4, h5, _⟩ := sum_ok hp hq
  rw [← add_eq]; exact Bq_divInt dd_ne h1 h3
theorem Bq_sub (hp : Bq n p) (hq : Bq m q) : Bq (n + m + 1) (p - q) := by
  obtain ⟨h1, h2, h3, h4, h5, _⟩ := sum_ok hp hq
  rw [← sub_eq]; exact Bq_divInt dd_ne h2 h3
theorem Bq_mul (hp : Bq n p) (hq : Bq m q) : Bq (n + m) (p * q) := by
  obtain ⟨h1, h2, h3, h4, h5, _⟩ := sum_ok hp hq
  rw [← mul_eq]; exact Bq_divInt dd_ne h5 h4
theorem l_add_ok (hp : Bq n p) (hq : Bq m q) (h : n + m + 1 ≤ 13000) (S : Sto) : F_l_add [fq p, fq q] S = .ok (fq (p + q)) S := by
  obtain ⟨h1, h2, h3, h4, h5, _⟩ := sum_ok hp hq
  obtain ⟨g1, g2, g3, g4⟩ := mok hp hq (by omega)
  have e := l_low_ok S (dd_ne (p := p) (q := q)) (pow_mono h1 h) (pow_mono h3 h)
  rw [add_eq] at e
  unfold F_l_add b_l_add
  refine run_eq0 ?_ (by simp [Pl, Pls, fq])
  simp only [fq] at e ⊢
  simp [c_l_add_0, oMul_int, g1, g2, g3, e]
theorem l_sub_ok (hp : Bq n p) (hq : Bq m q) (h : n + m + 1 ≤ 13000) (S : Sto) : F_l_sub [fq p, fq q] S = .ok (fq (p - q)) S := by
  obtain ⟨h1, h2, h3, h4, h5, _⟩ := sum_ok hp hq
  obtain ⟨g1, g2, g3, g4⟩ := mok hp hq (by omega)
  have e := l_low_ok S (dd_ne (p := p) (q := q)) (pow_mono h2 h) (pow_mono h3 h)
  rw [sub_eq] at e
  unfold F_l_sub b_l_sub
  refine run_eq0 ?_ (by simp [Pl, Pls, fq])
  simp only [fq] at e ⊢
  simp [c_l_sub_0, oMul_int, g1, g2, g3, e]
theorem lt_cross : (p.num * q.den < q.num * p.den) = (p < q) := propext (Rat.lt_iff p q).symm
theorem l_less_ok (hp : Bq n p) (hq : Bq m q) (h : n + m ≤ 100000) (S : Sto) : F_l_less [fq p, fq q] S = .ok (.bl (decide (p < q))) S := by
  obtain ⟨g1, g2, g3, g4⟩ := mok hp hq h
  unfold F_l_less b_l_less
  refine run_eq0 ?_ (by simp [Pl, Pls, fq])
  simp only [fq]
  simp [c_l_less_0, oMul_int, g1, g2, lt_cross]
theorem low_eq {a b : Int} (hb : 0 < b) : Int.fdiv a (Nat.gcd a.natAbs b.natAbs : Nat) = (Rat.divInt a b).num ∧ Int.fdiv b (Nat.gcd a.natAbs b.natAbs : Nat) = ((Rat.divInt a b).den : Int) := low_pos hb
theorem dd_pos : 0 < (p.den : Int) * (q.den : Int) := Int.mul_pos (by have := p.den_pos; omega) (by have := q.den_pos; omega)
theorem plus_ok (hp : Bq n p) (hq : Bq m q) (h : n + m + 1 ≤ 13000) (S : Sto) : F_plus [fq p, fq q] S = .ok (fq (p + q)) S := by
  obtain ⟨h1, h2, h3, h4, h5, _⟩ := sum_ok hp hq
  obtain ⟨g1, g2, g3, g4⟩ := mok hp hq (by omega)
  have hb := dd_pos (p := p) (q := q)
  have e1 : (Rat.divInt (p.num * q.den + q.num * p.den) ((p.den : Int) * (q.den : Int))) = p + q := add_eq
  have x0 : c_plus_0 [some (fq p), some (fq q), none, none, none] S = .nx [some (fq p), some (fq q), some (.int (p.num * q.den + q.num * p.den)), none, none] S := by
    simp only [fq]
    simp [c_plus_0, oMul_int, g1, g2]
  have x1 : ∀ o, c_plus_1 [some (fq p), some (fq q), o, none, none] S = .nx [some (fq p), some (fq q), o, some (.int ((p.den : Int) * (q.den : Int))), none] S := fun o => by
    simp only [fq]
    simp [c_plus_1, oMul_int, g3]
  have x2 : ∀ a b : Int, c_plus_2 [some (fq p), some (fq q), some (.int a), some (.int b), none] S = .nx [some (fq p), some (fq q), some (.int a), some (.int b), some (.int (Nat.gcd a.natAbs b.natAbs : Nat))] S := fun a b => by
    simp [c_plus_2]
  have x3 : ∀ a b : Int, 0 < b → a.natAbs < 2 ^ 13000 → b.natAbs < 2 ^ 13000 → c_plus_3 [some (fq p), some (fq q), some (.int a), some (.int b), some (.int (Nat.gcd a.natAbs b.natAbs : Nat))] S = .rt (fq (Rat.divInt a b)) S := fun a b hb ha hb' => by
    have hg := gcd_ne (a := a) (b := b) (by omega)
    have e := low_pos (a := a) hb
    simp [c_plus_3, oDiv_int _ (divOk_any hg ha), oDiv_int _ (divOk_any hg hb'), fq, e.1, e.2]
  unfold F_plus b_plus
  refine run_eq0 ?_ (by simp [Pl, Pls, fq])
  refine (seq_nx x0 _).trans ((seq_nx (x1 _) _).trans ((seq_nx (x2 _ _) _).trans ((x3 _ _ hb (pow_mono h1 h) (pow_mono h3 h)).trans ?_)))
  rw [e1]
theorem minus_ok (hp : Bq n p) (hq : Bq m q) (h : n + m + 1 ≤ 13000) (S : Sto) : F_minus [fq p, fq q] S = .ok (fq (p - q)) S := by
  obtain ⟨h1, h2, h3, h4, h5, _⟩ := sum_ok hp hq
  obtain ⟨g1, g2, g3, g4⟩ := mok hp hq (by omega)
  have hb := dd_pos (p := p) (q := q)
  have e1 : (Rat.divInt (p.num * q.den - q.num * p.den) ((p.den : Int) * (q.den : Int))) = p - q := sub_eq
  have x0 : c_minus_0 [some (fq p), some (fq q), none, none, none] S = .nx [some (fq p), some (fq q), some (.int (p.num * q.den - q.num * p.den)), none, none] S := by
    simp only [fq]
    simp [c_minus_0, oMul_int, g1, g2]
  have x1 : ∀ o, c_minus_1 [some (fq p), some (fq q), o, none, none] S = .nx [some (fq p), some (fq q), o, some (.int ((p.den : Int) * (q.den : Int))), none] S := fun o => by
    simp only [fq]
    simp [c_minus_1, oMul_int, g3]
  have x2 : ∀ a b : Int, c_minus_2 [some (fq p), some (fq q), some (.int a), some (.int b), none] S = .nx [some (fq p), some (fq q), some (.int a), some (.int b), some (.int (Nat.gcd a.natAbs b.natAbs : Nat))] S := fun a b => by
    simp [c_minus_2]
  have x3 : ∀ a b : Int, 0 < b → a.natAbs < 2 ^ 13000 → b.natAbs < 2 ^ 13000 → c_minus_3 [some (fq p), some (fq q), some (.int a), some (.int b), some (.int (Nat.gcd a.natAbs b.natAbs : Nat))] S = .rt (fq (Rat.divInt a b)) S := fun a b hb ha hb' => by
    have hg := gcd_ne (a := a) (b := b) (by omega)
    have e := low_pos (a := a) hb
    simp [c_minus_3, oDiv_int _ (divOk_any hg ha), oDiv_int _ (divOk_any hg hb'), fq, e.1, e.2]
  unfold F_minus b_minus
  refine run_eq0 ?_ (by simp [Pl, Pls, fq])
  refine (seq_nx x0 _).trans ((seq_nx (x1 _) _).trans ((seq_nx (x2 _ _) _).trans ((x3 _ _ hb (pow_mono h2 h) (pow_mono h3 h)).trans ?_)))
  rw [e1]
theorem times_ok (hp : Bq n p) (hq : Bq m q) (h : n + m + 1 ≤ 13000) (S : Sto) : F_times [fq p, fq q] S = .ok (fq (p * q)) S := by
  obtain ⟨h1, h2, h3, h4, h5, _⟩ := sum_ok hp hq
  obtain ⟨g1, g2, g3, g4⟩ := mok hp hq (by omega)
  have hb := dd_pos (p := p) (q := q)
  have e1 : (Rat.divInt (p.num * q.num) ((p.den : Int) * (q.den : Int))) = p * q := mul_eq
  have x0 : c_times_0 [some (fq p), some (fq q), none, none, none] S = .nx [some (fq p), some (fq q), some (.int (p.num * q.num)), none, none] S := by
    simp only [fq]
    simp [c_times_0, oMul_int, g4]
  have x1 : ∀ o, c_times_1 [some (fq p), some (fq q), o, none, none] S = .nx [some (fq p), some (fq q), o, some (.int ((p.den : Int) * (q.den : Int))), none] S := fun o => by
    simp only [fq]
    simp [c_times_1, oMul_int, g3]
  have x2 : ∀ a b : Int, c_times_2 [some (fq p), some (fq q), some (.int a), some (.int b), none] S = .nx [some (fq p), some (fq q), some (.int a), some (.int b), some (.int (Nat.gcd a.natAbs b.natAbs : Nat))] S := fun a b => by
    simp [c_times_2]
  have x3 : ∀ a b : Int, 0 < b → a.natAbs < 2 ^ 13000 → b.natAbs < 2 ^ 13000 → c_times_3 [some (fq p), some (fq q), some (.int a), some (.int b), some (.int (Nat.gcd a.natAbs b.natAbs : Nat))] S = .rt (fq (Rat.divInt a b)) S := fun a b hb ha hb' => by
    have hg := gcd_ne (a := a) (b := b) (by omega)
    have e := low_pos (a := a) hb
    simp [c_times_3, oDiv_int _ (divOk_any hg ha), oDiv_int _ (divOk_any hg hb'), fq, e.1, e.2]
  unfold F_times b_times
  refine run_eq0 ?_ (by simp [Pl, Pls, fq])
  refine (seq_nx x0 _).trans ((seq_nx (x1 _) _).trans ((seq_nx (x2 _ _) _).trans ((x3 _ _ hb (pow_mono (pow_mono h5 (Nat.le_succ _)) h) (pow_mono h3 h)).trans ?_)))
  rw [e1]
theorem is_less_ok (hp : Bq n p) (hq : Bq m q) (h : n + m ≤ 100000) (S : Sto) : F_is_less [fq p, fq q] S = .ok (.bl (decide (p < q))) S := by
  obtain ⟨g1, g2, g3, g4⟩ := mok hp hq h
  unfold F_is_less b_is_less
  refine run_eq0 ?_ (by simp [Pl, Pls, fq])
  simp only [fq]
  simp [c_is_less_0, oMul_int, g1, g2, lt_cross]
theorem floor_of_ok (hp : Bq n p) (h : n ≤ 13000) (S : Sto) : F_floor_of [fq p] S = .ok (.int p.floor) S := by
  have g : divOk p.num p.den = true := divOk_any (den_ne p) (pow_mono hp.1 h)
  unfold F_floor_of b_floor_of
  refine run_eq0 ?_ (by simp [Pl, Pls, fq])
  simp only [fq]
  simp [c_floor_of_0, oDiv_int _ g, Rat.floor_def, Int.fdiv_eq_ediv_of_nonneg]
theorem fraction_ok {a b : Int} (S : Sto) (hb : b ≠ 0) (ha2 : a.natAbs < 2 ^ 13000) (hb2 : b.natAbs < 2 ^ 13000) : F_fraction [.int a, .int b] S = .ok (fq (Rat.divInt a b)) S := by
  have e := lowest_ok S hb ha2 hb2
  have w : ∀ i : Int, F_is_whole [.int i] S = .ok (.bl true) S := fun i => by
    unfold F_is_whole b_is_whole
    refine run_eq0 ?_ (by simp [Pl])
    simp [b_is_whole, c_is_whole_0]
  unfold F_fraction b_fraction
  refine run_eq0 ?_ (by simp [Pl, Pls, fq])
  simp only [fq] at e ⊢
  simp [sSeq, c_fraction_0, c_fraction_1, c_fraction_2, w, hb, e]
theorem is_fraction_ok (S : Sto) : F_is_fraction [fq p] S = .ok (.bl true) S := by
  have r : (p.num.natAbs.gcd p.den) = 1 := p.reduced
  have d := p.den_nz
  have d2 : (p.den : Int) = 1 ∨ (1 : Int) < p.den := by omega
  unfold F_is_fraction b_is_fraction
  refine run_eq0 ?_ (by simp [Pl, Pls, fq])
  simp only [fq]
  rcases d2 with d2 | d2
  · simp [c_is_fraction_0, c_is_fraction_1, c_is_fraction_2, c_is_fraction_3, c_is_fraction_4, d2, sSeq]
  · have d3 : ¬ (p.den : Int) = 1 := by omega
    have d4 : ((p.den : Int) == 1) = false := beq_eq_false_iff_ne.mpr d3
    simp [c_is_fraction_0, c_is_fraction_1, c_is_fraction_2, c_is_fraction_3, c_is_fraction_4, r, d2, d3, d4, sSeq]
end

theorem fq_inj {p q : Rat} : fq p = fq q ↔ p = q := by
  constructor
  · intro h
    simp only [fq, D.tup.injEq, List.cons.injEq, D.int.injEq, and_true] at h
    exact Rat.ext h.1 (by exact_mod_cast h.2)
  · rintro rfl; rfl
theorem cn_fq {q : Rat} {k : Nat} : Cn (k + 3) (fq q) := by simp [fq, Cn, Cns]
theorem pl_fq {q : Rat} {k : Nat} : Pl (k + 3) (fq q) := cn_fq.pl
theorem gd_fq {p q : Rat} : gd (fq p = fq q) = decide (p = q) := by
  by_cases h : p = q
  · rw [gd_of (fq_inj.mpr h), decide_eq_true h]
  · rw [decide_eq_false h]
    cases z : gd (fq p = fq q) with
    | true => exact absurd (fq_inj.mp (of_gd z)) h
    | false => rfl
@[simp] theorem oEq_fq (p q : Rat) (S : Sto) : oEq (fq p) (fq q) S = .ok (.bl (decide (p = q))) S := by rw [oEq_cn cn_fq cn_fq, gd_fq]
@[simp] theorem oNe_fq (p q : Rat) (S : Sto) : oNe (fq p) (fq q) S = .ok (.bl (!decide (p = q))) S := by rw [oNe_cn cn_fq cn_fq, gd_fq]
theorem fq_int (i : Int) : D.tup [.int i, .int 1] = fq i := by simp [fq]
theorem Bq_int {n : Nat} {i : Int} (h : i.natAbs < 2 ^ n) (hn : 1 ≤ n) : Bq n i := ⟨by simpa using h, by simpa using Nat.one_lt_two_pow (by omega)⟩
end Fx
set_option Elab.async false
set_option linter.all false
set_option maxRecDepth 100000
set_option exponentiation.threshold 20000
/-! quotients; a stretch of a tempo -/
namespace Fx
open PySem L2 DV
section
variable {p q r : Rat} {n m : Nat}
theorem div_eq (p q : Rat) : Rat.divInt (p.num * q.den) (p.den * q.num) = p / q := by
  rw [Rat.div_def, Rat.inv_def, ← Rat.divInt_mul_divInt, Rat.divInt_ofNat, Rat.mkRat_self]
theorem num_ne (h : q ≠ 0) : q.num ≠ 0 := fun e => h (Rat.num_eq_zero.mp e)
theorem Bq_div (hp : Bq n p) (hq : Bq m q) (h : q ≠ 0) : Bq (n + m) (p / q) := by
  rw [← div_eq]
  exact Bq_divInt (Int.mul_ne_zero (den_ne p) (num_ne h)) (mul_lt hp.1 (by rw [den_abs]; exact hq.2)) (mul_lt (by rw [den_abs]; exact hp.2) hq.1)
theorem fq_zero : fq 0 = .tup [.int 0, .int 1] := rfl
theorem fq_one : fq 1 = .tup [.int 1, .int 1] := rfl
theorem over_ok (hp : Bq n p) (hq : Bq m q) (h : n + m ≤ 13000) (h0 : q ≠ 0) (S : Sto) : F_over [fq p, fq q] S = .ok (fq (p / q)) S := by
  have e0 : oEq (fq q) (.tup [.int 0, .int 1]) S = .ok (.bl false) S := by
    rw [← fq_zero, oEq_fq, decide_eq_false h0]
  have g1 : mulOk p.num q.den = true := mulOk_of hp.1 (by rw [den_abs]; exact hq.2) (by omega)
  have g2 : mulOk (p.den : Int) q.num = true := mulOk_of (by rw [den_abs]; exact hp.2) hq.1 (by omega)
  have h1 : (p.num * (q.den : Int)).natAbs < 2 ^ (n + m) := mul_lt hp.1 (by rw [den_abs]; exact hq.2)
  have h2 : ((p.den : Int) * q.num).natAbs < 2 ^ (n + m) := mul_lt (by rw [den_abs]; exact hp.2) hq.1
  have e := lowest_ok S (Int.mul_ne_zero (den_ne p) (num_ne h0)) (pow_mono h1 (by omega)) (pow_mono h2 (by omega))
  rw [div_eq] at e
  unfold F_over b_over
  refine run_eq0 ?_ pl_fq
  refine (seq_nx (ρ' := [some (fq p), some (fq q)]) (S' := S) (by simp [c_over_0, e0]) _).trans ?_
  simp only [fq] at e ⊢
  simp [c_over_1, oMul_int, g1, g2, e]
end
/-- a stretch: how many steps, the first's length, the last's -/
structure St where
  m : Int
  f : Rat
  l : Rat
def sd (s : St) : D := .tup [.int s.m, fq s.f, fq s.l]
/-- a right stretch -/
structure Sok (B : Nat) (s : St) : Prop where
  bb : B ≤ 1000
  m1 : 1 ≤ s.m
  m2 : s.m ≤ 200000
  f0 : 0 < s.f
  l0 : 0 < s.l
  bf : Bq B s.f
  bl : Bq B s.l
def rise (s : St) : Rat := (s.l - s.f) / (s.m : Rat)
def len (s : St) (k : Int) : Rat := s.f + rise s * ((2 * (k : Rat) + 1) / 2)
def tot (s : St) (k : Int) : Rat := s.f * (k : Rat) + rise s * ((k : Rat) * (k : Rat) / 2)
def mw (s : St) (p : Rat) : Rat := tot s p.floor + (p - (p.floor : Rat)) * len s p.floor
theorem divInt_div (c d : Int) : Rat.divInt c d = (c : Rat) / (d : Rat) := by
  rw [Rat.divInt_eq_div]
theorem Bq_frac {c d : Int} {m : Nat} (hc : c.natAbs < 2 ^ m) (hd : d.natAbs < 2 ^ m) (h0 : d ≠ 0) : Bq m ((c : Rat) / (d : Rat)) := by
  rw [← divInt_div]; exact Bq_divInt h0 hc hd
theorem num_den (q : Rat) : q * ((q.den : Int) : Rat) = (q.num : Rat) := by
  have h : (q.num : Rat) / ((q.den : Int) : Rat) = q := by rw [← divInt_div, Rat.divInt_ofNat, Rat.mkRat_self]
  have h0 : ((q.den : Int) : Rat) ≠ 0 := fun e => den_ne q (by exact_mod_cast e)
  grind
theorem clt {a b : Int} : ((a : Rat) < (b : Rat)) = (a < b) := propext Rat.intCast_lt_intCast
theorem cle {a b : Int} : ((a : Rat) ≤ (b : Rat)) = (a ≤ b) := propext Rat.intCast_le_intCast
theorem den_pos (q : Rat) : (0 : Rat) < ((q.den : Int) : Rat) := by
  have : ((0 : Int) : Rat) < ((q.den : Int) : Rat) := by rw [clt]; have := den_ne q; omega
  exact this
/-- the line of a stretch: even, rise, bottom -/
def ev (s : St) : Int := 2 * s.m * s.f.num * (s.l.den : Int)
def ri (s : St) : Int := s.l.num * (s.f.den : Int) - s.f.num * (s.l.den : Int)
def bo (s : St) : Int := 2 * s.m * (s.f.den : Int) * (s.l.den : Int)
def ln (s : St) : D := .tup [.int (ev s), .int (ri s), .int (bo s)]
section
variable {B : Nat} {s : St} {k : Int} {S : Sto}
theorem Sok.m0 (h : Sok B s) : (s.m : Rat) ≠ 0 := by
  have := h.m1
  intro e
  have : s.m = 0 := by exact_mod_cast e
  omega
theorem Sok.mp (h : Sok B s) : (0 : Rat) < (s.m : Rat) := by
  have : ((0 : Int) : Rat) < (s.m : Rat) := by rw [clt]; have := h.m1; omega
  exact this
theorem Sok.bm (h : Sok B s) : Bq 18 (s.m : Rat) := Bq_int (by have := h.m1; have := h.m2; omega) (by decide)
theorem Bq_rise (h : Sok B s) : Bq (B + B + 1 + 18) (rise s) := Bq_div (Bq_sub h.bl h.bf) h.bm h.m0
/-- how great the line's numbers are -/
theorem ln_lt (h : Sok B s) : (ev s).natAbs < 2 ^ (2 * B + 20) ∧ (ri s).natAbs < 2 ^ (2 * B + 1) ∧ (bo s).natAbs < 2 ^ (2 * B + 20) ∧ 0 < bo s := by
  have m1 := h.m1
  have m2 := h.m2
  have bm : (2 * s.m).natAbs < 2 ^ 20 := by omega
  have fd : (s.f.den : Int).natAbs < 2 ^ B := by rw [den_abs]; exact h.bf.2
  have ld : (s.l.den : Int).natAbs < 2 ^ B := by rw [den_abs]; exact h.bl.2
  refine ⟨pow_mono (mul_lt (mul_lt bm h.bf.1) ld) (by omega), pow_mono (sub_lt (mul_lt h.bl.1 fd) (mul_lt h.bf.1 ld)) (by omega), pow_mono (mul_lt (mul_lt bm fd) ld) (by omega), ?_⟩
  have a := s.f.den_pos
  have b := s.l.den_pos
  exact Int.mul_pos (Int.mul_pos (by omega) (by omega)) (by omega)
theorem bo_pos (h : Sok B s) : (0 : Rat) < (bo s : Rat) := by
  have : ((0 : Int) : Rat) < (bo s : Rat) := by rw [clt]; exact (ln_lt h).2.2.2
  exact this
theorem ev_eq : (ev s : Rat) = 2 * (s.m : Rat) * s.f * (((s.f.den : Int) : Rat) * ((s.l.den : Int) : Rat)) := by
  have f1 := num_den s.f
  unfold ev
  simp only [Rat.intCast_mul]
  rw [← f1]
  grind
theorem ri_eq : (ri s : Rat) = (s.l - s.f) * (((s.f.den : Int) : Rat) * ((s.l.den : Int) : Rat)) := by
  have f1 := num_den s.f
  have l1 := num_den s.l
  unfold ri
  simp only [Rat.intCast_mul, Rat.intCast_sub]
  rw [← f1, ← l1]
  grind
theorem bo_eq : (bo s : Rat) = 2 * (s.m : Rat) * (((s.f.den : Int) : Rat) * ((s.l.den : Int) : Rat)) := by
  unfold bo
  simp only [Rat.intCast_mul]
  grind
theorem rise_m (h : Sok B s) : rise s * (s.m : Rat) = s.l - s.f := by
  have := h.m0
  unfold rise
  grind
/-- the line's step, and its first so many steps -/
theorem ln_len (h : Sok B s) (k : Int) : ((ev s + (2 * k + 1) * ri s : Int) : Rat) = len s k * (bo s : Rat) := by
  have r := rise_m h
  simp only [Rat.intCast_add, Rat.intCast_mul]
  rw [ev_eq, ri_eq, bo_eq, ← r]
  unfold len
  grind
theorem ln_tot (h : Sok B s) (k : Int) : ((k * (ev s + k * ri s) : Int) : Rat) = tot s k * (bo s : Rat) := by
  have r := rise_m h
  simp only [Rat.intCast_add, Rat.intCast_mul]
  rw [ev_eq, ri_eq, bo_eq, ← r]
  unfold tot
  grind
theorem div_of {a b c : Rat} (h : a = c * b) (hb : b ≠ 0) : a / b = c := by
  rw [h]; grind
theorem line_of_ok (h : Sok B s) (S : Sto) : F_line_of [sd s] S = .ok (ln s) S := by
  have m1 := h.m1
  have bb := h.bb
  have m2 := h.m2
  have bm : (2 * s.m).natAbs < 2 ^ 20 := by omega
  have ft := h.bf.1
  have fd : (s.f.den : Int).natAbs < 2 ^ B := by rw [den_abs]; exact h.bf.2
  have lt := h.bl.1
  have ld : (s.l.den : Int).natAbs < 2 ^ B := by rw [den_abs]; exact h.bl.2
  have a0 : mulOk 2 s.m = true := mulOk_of (a := 20) (b := 20) (by decide) (by omega) (by decide)
  have a1 : mulOk (2 * s.m) s.f.num = true := mulOk_of bm ft (by omega)
  have a2 : mulOk (2 * s.m * s.f.num) (s.l.den : Int) = true := mulOk_of (mul_lt bm ft) ld (by omega)
  have a3 : mulOk s.l.num (s.f.den : Int) = true := mulOk_of lt fd (by omega)
  have a4 : mulOk s.f.num (s.l.den : Int) = true := mulOk_of ft ld (by omega)
  have a5 : mulOk (2 * s.m) (s.f.den : Int) = true := mulOk_of bm fd (by omega)
  have a6 : mulOk (2 * s.m * (s.f.den : Int)) (s.l.den : Int) = true := mulOk_of (mul_lt bm fd) ld (by omega)
  unfold F_line_of b_line_of
  refine run_eq0 ?_ (by simp [Pl, Pls, ln])
  refine (seq_nx (ρ' := [some (sd s), some (.int s.m), some (.int s.f.num), some (.int s.f.den), some (.int s.l.num), some (.int s.l.den), none, none]) (S' := S) (by simp [c_line_of_0, sd, fq]) _).trans ?_
  refine (seq_nx (ρ' := [some (sd s), some (.int s.m), some (.int s.f.num), some (.int s.f.den), some (.int s.l.num), some (.int s.l.den), some (.int (ev s)), none]) (S' := S) (by simp [c_line_of_1, oMul_int, a0, a1, a2, ev]) _).trans ?_
  refine (seq_nx (ρ' := [some (sd s), some (.int s.m), some (.int s.f.num), some (.int s.f.den), some (.int s.l.num), some (.int s.l.den), some (.int (ev s)), some (.int (ri s))]) (S' := S) (by simp [c_line_of_2, oMul_int, a3, a4, ri]) _).trans ?_
  simp [c_line_of_3, oMul_int, a0, a5, a6, bo, ln]
theorem rise_ok (h : Sok B s) (S : Sto) : F_rise_of [sd s] S = .ok (fq (rise s)) S := by
  have e1 := fun S => minus_ok h.bl h.bf (by have := h.bb; omega) S
  have e2 := fun S => over_ok (Bq_sub h.bl h.bf) h.bm (by have := h.bb; omega) h.m0 S
  unfold F_rise_of b_rise_of
  refine run_eq0 ?_ pl_fq
  refine (seq_nx (ρ' := [some (sd s), some (.int s.m), some (fq s.f), some (fq s.l)]) (S' := S) (by simp [c_rise_of_0, sd]) _).trans ?_
  simp [c_rise_of_1, fq_int, e1, e2, rise]
theorem Bq_half (hk : (2 * k + 1).natAbs < 2 ^ 20) : Bq 20 (((2 * k + 1 : Int) : Rat) / ((2 : Int) : Rat)) := Bq_frac hk (by decide) (by decide)
theorem half_eq (k : Int) : (((2 * k + 1 : Int) : Rat) / ((2 : Int) : Rat)) = (2 * (k : Rat) + 1) / 2 := by grind
/-- numbers of the line: a step's, and those of the first so many -/
theorem ln_k (h : Sok B s) (hk : k.natAbs < 2 ^ 18) : mulOk (2 * k + 1) (ri s) = true ∧ mulOk 2 k = true ∧ mulOk k (ri s) = true ∧ mulOk k (ev s + k * ri s) = true ∧
    (ev s + (2 * k + 1) * ri s).natAbs < 2 ^ (2 * B + 30) ∧ (k * (ev s + k * ri s)).natAbs < 2 ^ (2 * B + 50) := by
  obtain ⟨b1, b2, b3, b4⟩ := ln_lt h
  have bb := h.bb
  have k2 : (2 * k + 1).natAbs < 2 ^ 20 := by omega
  have t1 : ((2 * k + 1) * ri s).natAbs < 2 ^ (20 + (2 * B + 1)) := mul_lt k2 b2
  have t2 : (k * ri s).natAbs < 2 ^ (18 + (2 * B + 1)) := mul_lt hk b2
  have t3 : (ev s + k * ri s).natAbs < 2 ^ (20 + (2 * B + 1)) := add_lt (n := 2 * B + 20) b1 (pow_mono t2 (by omega)) |> fun z => pow_mono z (by omega)
  exact ⟨mulOk_of k2 b2 (by omega), mulOk_of (a := 20) (b := 20) (by decide) (by omega) (by decide), mulOk_of hk b2 (by omega), mulOk_of hk t3 (by omega),
    pow_mono (add_lt (n := 20 + (2 * B + 1)) (pow_mono b1 (by omega)) t1) (by omega), pow_mono (mul_lt hk t3) (by omega)⟩
theorem bo_ne (h : Sok B s) : bo s ≠ 0 := by have := (ln_lt h).2.2.2; omega
theorem boR_ne (h : Sok B s) : (bo s : Rat) ≠ 0 := by have := bo_pos h; grind
theorem Bq_len (h : Sok B s) (hk : k.natAbs < 2 ^ 18) : Bq (2 * B + 30) (len s k) := by
  have := Bq_divInt (n := 2 * B + 30) (bo_ne h) (ln_k h hk).2.2.2.2.1 (pow_mono (ln_lt h).2.2.1 (by omega))
  rw [divInt_div, ln_len h k, div_of rfl (boR_ne h)] at this
  exact this
theorem len_ok (h : Sok B s) (hk : k.natAbs < 2 ^ 18) (S : Sto) : F_length_within [ln s, .int k] S = .ok (fq (len s k)) S := by
  obtain ⟨g1, g2, g3, g4, g5, g6⟩ := ln_k h hk
  have e := lowest_ok S (bo_ne h) (pow_mono g5 (by have := h.bb; omega)) (pow_mono (ln_lt h).2.2.1 (by have := h.bb; omega))
  rw [divInt_div, ln_len h k, div_of rfl (boR_ne h)] at e
  unfold F_length_within b_length_within
  refine run_eq0 ?_ pl_fq
  refine (seq_nx (ρ' := [some (ln s), some (.int k), some (.int (ev s)), some (.int (ri s)), some (.int (bo s))]) (S' := S) (by simp [c_length_within_0, ln]) _).trans ?_
  simp [c_length_within_1, oMul_int, g1, g2, e]
theorem Bq_tot (h : Sok B s) (hk : k.natAbs < 2 ^ 18) : Bq (2 * B + 50) (tot s k) := by
  have := Bq_divInt (n := 2 * B + 50) (bo_ne h) (ln_k h hk).2.2.2.2.2 (pow_mono (ln_lt h).2.2.1 (by omega))
  rw [divInt_div, ln_tot h k, div_of rfl (boR_ne h)] at this
  exact this
theorem tot_ok (h : Sok B s) (hk : k.natAbs < 2 ^ 18) (S : Sto) : F_length_of_steps [ln s, .int k] S = .ok (fq (tot s k)) S := by
  obtain ⟨g1, g2, g3, g4, g5, g6⟩ := ln_k h hk
  have e := lowest_ok S (bo_ne h) (pow_mono g6 (by have := h.bb; omega)) (pow_mono (ln_lt h).2.2.1 (by have := h.bb; omega))
  rw [divInt_div, ln_tot h k, div_of rfl (boR_ne h)] at e
  unfold F_length_of_steps b_length_of_steps
  refine run_eq0 ?_ pl_fq
  refine (seq_nx (ρ' := [some (ln s), some (.int k), some (.int (ev s)), some (.int (ri s)), some (.int (bo s))]) (S' := S) (by simp [c_length_of_steps_0, ln]) _).trans ?_
  simp [c_length_of_steps_1, oMul_int, g3, g4, e]
/-- a moment within, in whole numbers -/
theorem ln_mw (h : Sok B s) (p : Rat) : ((p.floor * (ev s + p.floor * ri s) * (p.den : Int) + (p.num % (p.den : Int)) * (ev s + (2 * p.floor + 1) * ri s) : Int) : Rat) / ((bo s * (p.den : Int) : Int) : Rat) = mw s p := by
  have t := ln_tot h p.floor
  have l := ln_len h p.floor
  have d := num_den p
  have dp := den_pos p
  have b := boR_ne h
  have m : ((p.num % (p.den : Int) : Int) : Rat) = (p - (p.floor : Rat)) * ((p.den : Int) : Rat) := by
    have : p.num % (p.den : Int) = p.num - (p.den : Int) * p.floor := by rw [Rat.floor_def, Int.emod_def]
    rw [this]
    simp only [Rat.intCast_sub, Rat.intCast_mul]
    grind
  simp only [Rat.intCast_add, Rat.intCast_mul] at t l m ⊢
  rw [t, l, m]
  unfold mw
  refine div_of ?_ ?_
  · grind
  · grind
theorem mw_num {p : Rat} {n : Nat} (h : Sok B s) (hp : Bq n p) (hk : p.floor.natAbs < 2 ^ 18) :
    (p.floor * (ev s + p.floor * ri s) * (p.den : Int) + (p.num % (p.den : Int)) * (ev s + (2 * p.floor + 1) * ri s)).natAbs < 2 ^ (n + 2 * B + 60) ∧ (bo s * (p.den : Int)).natAbs < 2 ^ (n + 2 * B + 60) ∧ (p.num % (p.den : Int)).natAbs < 2 ^ n := by
  obtain ⟨g1, g2, g3, g4, g5, g6⟩ := ln_k h hk
  have d : (p.den : Int).natAbs < 2 ^ n := by rw [den_abs]; exact hp.2
  have pd := p.den_pos
  have m0 := Int.emod_nonneg p.num (show (p.den : Int) ≠ 0 by omega)
  have m1 := Int.emod_lt_of_pos p.num (show (0 : Int) < p.den by omega)
  have m : (p.num % (p.den : Int)).natAbs < 2 ^ n := by omega
  refine ⟨pow_mono (add_lt (n := 2 * B + 50 + n) (mul_lt g6 d) ?_) (by omega), pow_mono (mul_lt (ln_lt h).2.2.1 d) (by omega), m⟩
  rw [Nat.add_comm]
  exact mul_lt m (pow_mono g5 (by omega))
theorem Bq_mw {p : Rat} {n : Nat} (h : Sok B s) (hp : Bq n p) (hk : p.floor.natAbs < 2 ^ 18) : Bq (n + 2 * B + 60) (mw s p) := by
  obtain ⟨a, b, c⟩ := mw_num h hp hk
  rw [← ln_mw h p, ← divInt_div]
  exact Bq_divInt (Int.mul_ne_zero (bo_ne h) (den_ne p)) a b
theorem mw_ok {p : Rat} {n : Nat} (h : Sok B s) (hp : Bq n p) (hn : n + 2 * B + 60 ≤ 13000) (hk : p.floor.natAbs < 2 ^ 18) (S : Sto) : F_moment_within [ln s, fq p] S = .ok (fq (mw s p)) S := by
  obtain ⟨g1, g2, g3, g4, g5, g6⟩ := ln_k h hk
  obtain ⟨a, b, c⟩ := mw_num h hp hk
  have d : (p.den : Int).natAbs < 2 ^ n := by rw [den_abs]; exact hp.2
  have pd := p.den_pos
  have e := lowest_ok S (Int.mul_ne_zero (bo_ne h) (den_ne p)) (pow_mono a hn) (pow_mono b hn)
  rw [divInt_div, ln_mw h p] at e
  have q1 : divOk p.num p.den = true := divOk_any (den_ne p) (pow_mono hp.1 (by omega))
  have q2 : gd (0 < (p.den : Int)) = true := gd_of (by omega)
  have q3 : mulOk (p.floor * (ev s + p.floor * ri s)) (p.den : Int) = true := mulOk_of g6 d (by omega)
  have q4 : mulOk (p.num % (p.den : Int)) (ev s + (2 * p.floor + 1) * ri s) = true := mulOk_of c g5 (by omega)
  have q5 : mulOk (bo s) (p.den : Int) = true := mulOk_of (ln_lt h).2.2.1 d (by omega)
  have fl : p.num / (p.den : Int) = p.floor := Rat.floor_def p |>.symm
  unfold F_moment_within b_moment_within
  refine run_eq0 ?_ pl_fq
  refine (seq_nx (ρ' := [some (ln s), some (fq p), some (.int (ev s)), some (.int (ri s)), some (.int (bo s)), none, none, none, none]) (S' := S) (by simp [c_moment_within_0, ln]) _).trans ?_
  refine (seq_nx (ρ' := [some (ln s), some (fq p), some (.int (ev s)), some (.int (ri s)), some (.int (bo s)), some (.int p.floor), some (.int (p.num % (p.den : Int))), none, none]) (S' := S) (by
    simp only [fq]
    simp [c_moment_within_1, q1, q2, fl, pd]) _).trans ?_
  refine (seq_nx (ρ' := [some (ln s), some (fq p), some (.int (ev s)), some (.int (ri s)), some (.int (bo s)), some (.int p.floor), some (.int (p.num % (p.den : Int))), some (.int (p.floor * (ev s + p.floor * ri s))), none]) (S' := S) (by simp [c_moment_within_2, oMul_int, g3, g4]) _).trans ?_
  refine (seq_nx (ρ' := [some (ln s), some (fq p), some (.int (ev s)), some (.int (ri s)), some (.int (bo s)), some (.int p.floor), some (.int (p.num % (p.den : Int))), some (.int (p.floor * (ev s + p.floor * ri s))), some (.int (ev s + (2 * p.floor + 1) * ri s))]) (S' := S) (by simp [c_moment_within_3, oMul_int, g1, g2]) _).trans ?_
  simp only [fq] at e ⊢
  simp [c_moment_within_4, oMul_int, q3, q4, q5, e]
end
end Fx
set_option Elab.async false
set_option linter.all false
set_option maxRecDepth 100000
/-! tempos: how moments rise -/
namespace Fx
open PySem L2 DV
section
variable {B : Nat} {s : St} {k : Int} {p q x r : Rat}
theorem tot_succ (s : St) (k : Int) : tot s (k + 1) = tot s k + len s k := by
  unfold tot len
  grind
theorem tot_zero (s : St) : tot s 0 = 0 := by
  unfold tot
  grind
theorem pos_of_mul {a b : Rat} (ha : 0 < a) (h : 0 < a * b) : 0 < b := by
  refine Rat.not_le.mp fun hb => ?_
  have : 0 ≤ a * (-b) := Rat.mul_nonneg (by grind) (by grind)
  grind
theorem len_pos (h : Sok B s) (h0 : 0 ≤ k) (hk : k < s.m) : 0 < len s k := by
  have hm := rise_m h
  have h1 := h.f0
  have h2 := h.l0
  have c1 : (0 : Rat) < 2 * (s.m : Rat) - 2 * (k : Rat) - 1 := by
    have : ((2 * k + 1 : Int) : Rat) < ((2 * s.m : Int) : Rat) := by rw [clt]; omega
    grind
  have c2 : (0 : Rat) < 2 * (k : Rat) + 1 := by
    have : ((0 : Int) : Rat) < ((2 * k + 1 : Int) : Rat) := by rw [clt]; omega
    grind
  have c3 : (0 : Rat) < 2 * (s.m : Rat) := by grind
  have e1 := Rat.mul_pos h1 c1
  have e2 := Rat.mul_pos h2 c2
  refine pos_of_mul c3 ?_
  have e : 2 * (s.m : Rat) * len s k = s.f * (2 * (s.m : Rat) - 2 * (k : Rat) - 1) + s.l * (2 * (k : Rat) + 1) := by
    unfold len
    grind
  rw [e]
  grind
theorem tot_mono (h : Sok B s) {a : Int} (ha : 0 ≤ a) : ∀ (n : Nat), a + n ≤ s.m → tot s a ≤ tot s (a + n)
  | 0, _ => by
    have : a + ((0 : Nat) : Int) = a := by omega
    rw [this]; grind
  | n + 1, hn => by
    have ih := tot_mono h ha n (by omega)
    have e : a + ((n + 1 : Nat) : Int) = (a + n) + 1 := by omega
    have lp := len_pos h (k := a + n) (by omega) (by omega)
    rw [e, tot_succ]
    grind
theorem tot_le (h : Sok B s) {a b : Int} (ha : 0 ≤ a) (hab : a ≤ b) (hb : b ≤ s.m) : tot s a ≤ tot s b := by
  have := tot_mono h ha (b - a).toNat (by omega)
  rw [show a + ((b - a).toNat : Int) = b by omega] at this
  exact this
theorem tot_nonneg (h : Sok B s) {a : Int} (ha : 0 ≤ a) (hb : a ≤ s.m) : 0 ≤ tot s a := by
  have := tot_le h (a := 0) (by omega) ha hb
  rw [tot_zero] at this
  exact this
theorem fl_nonneg (h : 0 ≤ p) : 0 ≤ p.floor := by
  have := Rat.lt_floor_add_one p
  have h2 : ((0 : Int) : Rat) < ((p.floor + 1 : Int) : Rat) := by
    have : ((0 : Int) : Rat) = 0 := rfl
    grind
  rw [clt] at h2
  omega
theorem fl_lt {m : Int} (h : p < (m : Rat)) : p.floor < m := by
  have := Rat.floor_le p
  rw [← clt]
  grind
theorem fl_eq (h1 : (k : Rat) ≤ p) (h2 : p < (k : Rat) + 1) : p.floor = k := by
  have f1 := Rat.floor_le p
  have f2 := Rat.lt_floor_add_one p
  have a1 : (p.floor : Rat) < ((k + 1 : Int) : Rat) := by grind
  have a2 : (k : Rat) < ((p.floor + 1 : Int) : Rat) := by grind
  rw [clt] at a1 a2
  omega
theorem mw_low (h : Sok B s) (h0 : 0 ≤ p) (hm : p < (s.m : Rat)) : tot s p.floor ≤ mw s p ∧ mw s p < tot s (p.floor + 1) := by
  have f1 := Rat.floor_le p
  have f2 := Rat.lt_floor_add_one p
  have lp := len_pos h (k := p.floor) (fl_nonneg h0) (fl_lt hm)
  have f3 : p < (p.floor : Rat) + 1 := by grind
  have m1 : 0 ≤ (p - (p.floor : Rat)) * len s p.floor := Rat.mul_nonneg (by grind) (by grind)
  have m2 : 0 < (1 - (p - (p.floor : Rat))) * len s p.floor := Rat.mul_pos (by grind) lp
  rw [tot_succ]
  unfold mw
  constructor <;> grind
theorem mw_nonneg (h : Sok B s) (h0 : 0 ≤ p) (hm : p < (s.m : Rat)) : 0 ≤ mw s p := by
  have := (mw_low h h0 hm).1
  have t := tot_nonneg h (a := p.floor) (fl_nonneg h0) (by have := fl_lt hm; omega)
  grind
theorem mw_lt (h : Sok B s) (h0 : 0 ≤ p) (hm : p < (s.m : Rat)) : mw s p < tot s s.m := by
  have := (mw_low h h0 hm).2
  have t := tot_le h (a := p.floor + 1) (b := s.m) (by have := fl_nonneg h0; omega) (by have := fl_lt hm; omega) (by omega)
  grind
theorem mw_mono (h : Sok B s) (h0 : 0 ≤ p) (hpq : p < q) (hm : q < (s.m : Rat)) : mw s p < mw s q := by
  have a1 := Rat.floor_le p
  have a2 := Rat.lt_floor_add_one p
  have b1 := Rat.floor_le q
  have b2 := Rat.lt_floor_add_one q
  have hle : p.floor ≤ q.floor := by
    have : (p.floor : Rat) < ((q.floor + 1 : Int) : Rat) := by grind
    rw [clt] at this
    omega
  by_cases he : p.floor = q.floor
  · have lp := len_pos h (k := q.floor) (fl_nonneg (p := q) (by grind)) (fl_lt hm)
    have m1 : 0 < (q - p) * len s q.floor := Rat.mul_pos (by grind) lp
    unfold mw
    rw [he]
    grind
  · have c1 := (mw_low h h0 (by grind)).2
    have c2 := (mw_low h (p := q) (by grind) hm).1
    have c3 := tot_le h (a := p.floor + 1) (b := q.floor) (by have := fl_nonneg h0; omega) (by omega) (by have := fl_lt hm; omega)
    grind
/-- the way back within a stretch -/
theorem mw_back (h : Sok B s) (h0 : 0 ≤ k) (hk : k < s.m) (h1 : tot s k ≤ x) (h2 : x < tot s (k + 1)) :
    0 ≤ (k : Rat) + (x - tot s k) / len s k ∧ (k : Rat) + (x - tot s k) / len s k < (s.m : Rat) ∧ mw s ((k : Rat) + (x - tot s k) / len s k) = x := by
  have lp := len_pos h h0 hk
  rw [tot_succ] at h2
  have hd : (x - tot s k) / len s k * len s k = x - tot s k := by grind
  have d1 : 0 ≤ (x - tot s k) / len s k := by
    refine Rat.not_lt.mp fun hn => ?_
    have := Rat.mul_pos (a := -((x - tot s k) / len s k)) (by grind) lp
    grind
  have d2 : (x - tot s k) / len s k < 1 := by
    refine Rat.not_le.mp fun hn => ?_
    have := Rat.mul_nonneg (a := (x - tot s k) / len s k - 1) (b := len s k) (by grind) (by grind)
    grind
  have hk0 : (0 : Rat) ≤ (k : Rat) := by
    have : ((0 : Int) : Rat) ≤ (k : Rat) := by rw [cle]; exact h0
    exact this
  have hkm : ((k + 1 : Int) : Rat) ≤ (s.m : Rat) := by rw [cle]; omega
  have hf : ((k : Rat) + (x - tot s k) / len s k).floor = k := fl_eq (by grind) (by grind)
  refine ⟨by grind, by grind, ?_⟩
  unfold mw
  rw [hf]
  grind
/-- the moment of a place, by stretches and the rest -/
def mo : List St → Rat → Rat → Rat
  | [], r, p => p * r
  | s :: ss, r, p => if p < (s.m : Rat) then mw s p else tot s s.m + mo ss r (p - (s.m : Rat))
theorem mo_nonneg : ∀ {ss : List St} {p : Rat}, (∀ s ∈ ss, Sok B s) → 0 < r → 0 ≤ p → 0 ≤ mo ss r p
  | [], p, _, hr, hp => Rat.mul_nonneg hp (by grind)
  | s :: ss, p, h, hr, hp => by
    have hs := h s (by simp)
    unfold mo
    split
    · rename_i hm
      exact mw_nonneg hs hp hm
    · rename_i hm
      have ih := mo_nonneg (ss := ss) (p := p - (s.m : Rat)) (fun s hs => h s (by simp [hs])) hr (by grind)
      have t := tot_nonneg hs (a := s.m) (by have := hs.m1; omega) (by omega)
      grind
theorem mo_mono : ∀ {ss : List St} {p q : Rat}, (∀ s ∈ ss, Sok B s) → 0 < r → 0 ≤ p → p < q → mo ss r p < mo ss r q
  | [], p, q, _, hr, hp, hq => by
    show p * r < q * r
    exact (Rat.mul_lt_mul_right hr).mpr hq
  | s :: ss, p, q, h, hr, hp, hq => by
    have hs := h s (by simp)
    have h' : ∀ s ∈ ss, Sok B s := fun s hs => h s (by simp [hs])
    unfold mo
    by_cases hqm : q < (s.m : Rat)
    · have hpm : p < (s.m : Rat) := by grind
      rw [if_pos hqm, if_pos hpm]
      exact mw_mono hs hp hq hqm
    · rw [if_neg hqm]
      by_cases hpm : p < (s.m : Rat)
      · rw [if_pos hpm]
        have a := mw_lt hs hp hpm
        have b := mo_nonneg (ss := ss) (p := q - (s.m : Rat)) h' hr (by grind)
        grind
      · rw [if_neg hpm]
        have ih := mo_mono (ss := ss) (p := p - (s.m : Rat)) (q := q - (s.m : Rat)) h' hr (by grind) (by grind)
        grind
theorem mo_inj {ss : List St} (h : ∀ s ∈ ss, Sok B s) (hr : 0 < r) (hp : 0 ≤ p) (hq : 0 ≤ q) (e : mo ss r p = mo ss r q) : p = q := by
  by_cases h1 : p < q
  · have := mo_mono h hr hp h1
    grind
  · by_cases h2 : q < p
    · have := mo_mono h hr hq h2
      grind
    · grind
theorem mo_lt {ss : List St} (h : ∀ s ∈ ss, Sok B s) (hr : 0 < r) (hp : 0 ≤ p) (hq : 0 ≤ q) : (mo ss r p < mo ss r q) = (p < q) := by
  refine propext ⟨fun e => ?_, mo_mono h hr hp⟩
  refine Rat.not_le.mp fun hn => ?_
  by_cases h1 : q < p
  · have := mo_mono h hr hq h1
    grind
  · have : p = q := by grind
    rw [this] at e
    grind
/-- how long a step lasts -/
def le : List St → Rat → Int → Rat
  | [], r, _ => r
  | s :: ss, r, k => if k < s.m then len s k else le ss r (k - s.m)
theorem fl_cast (k : Int) : (k : Rat).floor = k := fl_eq (by grind) (by grind)
theorem mw_cast (s : St) (k : Int) : mw s (k : Rat) = tot s k := by
  unfold mw
  rw [fl_cast]
  grind
theorem mo_zero : ∀ {ss : List St}, (∀ s ∈ ss, Sok B s) → mo ss r 0 = 0
  | [], _ => by
    show 0 * r = 0
    grind
  | s :: ss, h => by
    have hs := h s (by simp)
    have : (0 : Rat) < (s.m : Rat) := by
      have : ((0 : Int) : Rat) < (s.m : Rat) := by rw [clt]; have := hs.m1; omega
      exact this
    unfold mo
    rw [if_pos this]
    have := mw_cast s 0
    rw [tot_zero] at this
    exact this
theorem mo_step : ∀ {ss : List St} {k : Int}, (∀ s ∈ ss, Sok B s) → 0 ≤ k → mo ss r ((k + 1 : Int) : Rat) = mo ss r (k : Rat) + le ss r k
  | [], k, _, _ => by
    show ((k + 1 : Int) : Rat) * r = (k : Rat) * r + r
    grind
  | s :: ss, k, h, h0 => by
    have hs := h s (by simp)
    have h' : ∀ s ∈ ss, Sok B s := fun s hs => h s (by simp [hs])
    unfold mo le
    by_cases hk : k < s.m
    · have i1 : (k : Rat) < (s.m : Rat) := by rw [clt]; exact hk
      rw [if_pos hk, if_pos i1, mw_cast s k]
      by_cases hk1 : k + 1 < s.m
      · have i2 : ((k + 1 : Int) : Rat) < (s.m : Rat) := by rw [clt]; exact hk1
        rw [if_pos i2, mw_cast s (k + 1), tot_succ]
      · have e : s.m = k + 1 := by omega
        have i2 : ¬ ((k + 1 : Int) : Rat) < (s.m : Rat) := by rw [clt]; exact hk1
        have z : ((k + 1 : Int) : Rat) - (s.m : Rat) = 0 := by rw [e]; grind
        rw [if_neg i2, z, mo_zero h', e, tot_succ]
        grind
    · have i1 : ¬ (k : Rat) < (s.m : Rat) := by rw [clt]; exact hk
      have i2 : ¬ ((k + 1 : Int) : Rat) < (s.m : Rat) := by rw [clt]; omega
      rw [if_neg hk, if_neg i1, if_neg i2]
      have ih := mo_step (ss := ss) (k := k - s.m) h' (by omega)
      have e1 : ((k + 1 : Int) : Rat) - (s.m : Rat) = ((k - s.m + 1 : Int) : Rat) := by grind
      have e2 : (k : Rat) - (s.m : Rat) = ((k - s.m : Int) : Rat) := by grind
      rw [e1, e2, ih]
      grind
theorem mo_half : ∀ {ss : List St} {k : Int}, (∀ s ∈ ss, Sok B s) → 0 ≤ k → mo ss r ((k : Rat) + 1 / 2) = mo ss r (k : Rat) + le ss r k * (1 / 2)
  | [], k, _, _ => by
    show ((k : Rat) + 1 / 2) * r = (k : Rat) * r + r * (1 / 2)
    grind
  | s :: ss, k, h, h0 => by
    have hs := h s (by simp)
    have h' : ∀ s ∈ ss, Sok B s := fun s hs => h s (by simp [hs])
    unfold mo le
    by_cases hk : k < s.m
    · have hk2 : ((k + 1 : Int) : Rat) ≤ (s.m : Rat) := by rw [cle]; omega
      have i1 : (k : Rat) < (s.m : Rat) := by rw [clt]; exact hk
      have i2 : (k : Rat) + 1 / 2 < (s.m : Rat) := by grind
      rw [if_pos hk, if_pos i1, mw_cast s k, if_pos i2]
      have hf : ((k : Rat) + 1 / 2).floor = k := fl_eq (by grind) (by grind)
      unfold mw
      rw [hf]
      grind
    · have hk2 : (s.m : Rat) ≤ (k : Rat) := by rw [cle]; omega
      have i1 : ¬ (k : Rat) < (s.m : Rat) := by rw [clt]; exact hk
      have i2 : ¬ (k : Rat) + 1 / 2 < (s.m : Rat) := by grind
      rw [if_neg hk, if_neg i1, if_neg i2]
      have ih := mo_half (ss := ss) (k := k - s.m) h' (by omega)
      have e1 : (k : Rat) + 1 / 2 - (s.m : Rat) = ((k - s.m : Int) : Rat) + 1 / 2 := by grind
      have e2 : (k : Rat) - (s.m : Rat) = ((k - s.m : Int) : Rat) := by grind
      rw [e1, e2, ih]
      grind
end
end Fx
set_option Elab.async false
set_option linter.all false
set_option maxRecDepth 100000
set_option exponentiation.threshold 20000
/-! the step at a moment, by halving; the place within; small askings -/
namespace Fx
open PySem L2 DV
section
variable {B : Nat} {s : St} {k : Int} {p q x r : Rat} {S : Sto}
theorem le_fl {i : Int} : (i ≤ p.floor) = ((i : Rat) ≤ p) := by
  refine propext ⟨fun h => ?_, fun h => ?_⟩
  · have := Rat.floor_le p
    have h2 : (i : Rat) ≤ (p.floor : Rat) := by rw [cle]; exact h
    grind
  · have := Rat.lt_floor_add_one p
    have h2 : (i : Rat) < ((p.floor + 1 : Int) : Rat) := by grind
    rw [clt] at h2
    omega
/-- how the search compares -/
theorem step_cmp (h : Sok B s) (j : Int) : (j * (ev s + j * ri s) ≤ (x * (bo s : Rat)).floor) = (tot s j ≤ x) := by
  have b := bo_pos h
  rw [le_fl, ln_tot h]
  refine propext ⟨fun hh => ?_, fun hh => ?_⟩
  · refine Rat.not_lt.mp fun hn => ?_
    have := (Rat.mul_lt_mul_right b).mpr hn
    grind
  · refine Rat.not_lt.mp fun hn => ?_
    have := (Rat.mul_lt_mul_right b).mp hn
    grind
theorem fdiv_fl (a : Int) : Int.fdiv (x.num * a) (x.den : Int) = (x * (a : Rat)).floor := by
  rw [Int.fdiv_eq_ediv_of_nonneg _ (Int.natCast_nonneg _)]
  have dp := den_pos x
  have d := x.den_pos
  have e := num_den x
  symm
  have m0 := Int.emod_nonneg (x.num * a) (show (x.den : Int) ≠ 0 by omega)
  have m1 := Int.emod_lt_of_pos (x.num * a) (show (0 : Int) < x.den by omega)
  have m2 := Int.mul_ediv_add_emod (x.num * a) (x.den : Int)
  generalize (x.num * a) / (x.den : Int) = Q at *
  have r1 : ((x.den : Int) * Q : Int) ≤ x.num * a := by omega
  have r2 : x.num * a < ((x.den : Int) * (Q + 1) : Int) := by
    rw [Int.mul_add, Int.mul_one]; omega
  have r3 : (((x.den : Int) * Q : Int) : Rat) ≤ ((x.num * a : Int) : Rat) := by rw [cle]; exact r1
  have r4 : ((x.num * a : Int) : Rat) < (((x.den : Int) * (Q + 1) : Int) : Rat) := by rw [clt]; exact r2
  simp only [Rat.intCast_mul, Rat.intCast_add, ← e] at r3 r4
  refine fl_eq ?_ ?_
  · refine Rat.not_lt.mp fun hn => ?_
    have := (Rat.mul_lt_mul_right dp).mpr hn
    grind
  · refine Rat.not_le.mp fun hn => ?_
    have := Rat.mul_le_mul_of_nonneg_right hn (Rat.le_of_lt dp)
    grind
/-- the halving -/
theorem search (h : Sok B s) {L : Int} (hc : ∀ j : Int, (j * (ev s + j * ri s) ≤ L) = (tot s j ≤ x)) {o0 o1 o5 : Option D} :
    ∀ (n : Nat) (lo hi : Int) (o : Option D), 0 ≤ lo → lo ≤ hi → hi < s.m → hi - lo < 2 ^ n → tot s lo ≤ x → x < tot s (hi + 1) → ∀ fuel, n ≤ fuel →
    ∃ k o', whGo (tTru (eOp oLt (eVar 6) (eVar 7))) (sSeq c_step_at_3_0 c_step_at_3_1) fuel [o0, o1, some (.int L), some (.int (ev s)), some (.int (ri s)), o5, some (.int lo), some (.int hi), o] S = .nx [o0, o1, some (.int L), some (.int (ev s)), some (.int (ri s)), o5, some (.int k), some (.int k), o'] S ∧ 0 ≤ k ∧ k < s.m ∧ tot s k ≤ x ∧ x < tot s (k + 1)
  | n, lo, hi, o, h0, h1, h2, h3, h4, h5, fuel, hf => by
    by_cases he : lo = hi
    · subst he
      refine ⟨lo, o, ?_, h0, h2, h4, h5⟩
      unfold whGo
      simp
    · have hlt : lo < hi := by omega
      match n, fuel, hf, h3 with
      | 0, _, _, h3 => omega
      | n + 1, fuel + 1, hf, h3 =>
        have hp : (2 : Int) ^ (n + 1) = 2 ^ n * 2 := Int.pow_succ ..
        rw [hp] at h3
        obtain ⟨md, hmd⟩ : ∃ md : Int, md = (lo + hi + 1) / 2 := ⟨_, rfl⟩
        have g : ∀ y : Int, divOk y 2 = true := fun y => divOk_of (b := 10) (by decide) (by decide) (by decide)
        have hk : md.natAbs < 2 ^ 18 := by have := h.m2; omega
        obtain ⟨_, _, g3, g4, _, _⟩ := ln_k h hk
        have e0 : c_step_at_3_0 [o0, o1, some (.int L), some (.int (ev s)), some (.int (ri s)), o5, some (.int lo), some (.int hi), o] S = .nx [o0, o1, some (.int L), some (.int (ev s)), some (.int (ri s)), o5, some (.int lo), some (.int hi), some (.int md)] S := by
          simp [c_step_at_3_0, oDiv_int _ (g _), Int.fdiv_eq_ediv_of_nonneg, hmd]
        by_cases hc2 : tot s md ≤ x
        · have e1 : c_step_at_3_1 [o0, o1, some (.int L), some (.int (ev s)), some (.int (ri s)), o5, some (.int lo), some (.int hi), some (.int md)] S = .nx [o0, o1, some (.int L), some (.int (ev s)), some (.int (ri s)), o5, some (.int md), some (.int hi), some (.int md)] S := by
            have := (hc md).mpr hc2
            simp [c_step_at_3_1, oMul_int, g3, g4, this]
          obtain ⟨k, o', e2, r1⟩ := search h hc (o0 := o0) (o1 := o1) (o5 := o5) n md hi (some (.int md)) (by omega) (by omega) h2 (by omega) hc2 h5 fuel (by omega)
          refine ⟨k, o', ?_, r1⟩
          unfold whGo
          simp only [tTru_eq, eOp_eq, eVar_s, eVar_0, bind_ok, oLt_int, decide_eq_true hlt, truD_bl, sb_ok, if_true, seq_nx e0, e1, e2]
        · have e1 : c_step_at_3_1 [o0, o1, some (.int L), some (.int (ev s)), some (.int (ri s)), o5, some (.int lo), some (.int hi), some (.int md)] S = .nx [o0, o1, some (.int L), some (.int (ev s)), some (.int (ri s)), o5, some (.int lo), some (.int (md - 1)), some (.int md)] S := by
            have : ¬ (md * (ev s + md * ri s) ≤ L) := fun hh => hc2 ((hc md).mp hh)
            simp [c_step_at_3_1, oMul_int, g3, g4, this]
          obtain ⟨k, o', e2, r1⟩ := search h hc (o0 := o0) (o1 := o1) (o5 := o5) n lo (md - 1) (some (.int md)) h0 (by omega) (by omega) (by omega) h4 (by rw [show md - 1 + 1 = md by omega]; exact Rat.not_le.mp hc2) fuel (by omega)
          refine ⟨k, o', ?_, r1⟩
          unfold whGo
          simp only [tTru_eq, eOp_eq, eVar_s, eVar_0, bind_ok, oLt_int, decide_eq_true hlt, truD_bl, sb_ok, if_true, seq_nx e0, e1, e2]
theorem step_at_ok (h : Sok B s) {L : Int} (hL : L = (x * (bo s : Rat)).floor) (h0 : 0 ≤ x) (hm : x < tot s s.m) (S : Sto) :
    ∃ k : Int, F_step_at [ln s, .int s.m, .int L] S = .ok (.int k) S ∧ 0 ≤ k ∧ k < s.m ∧ tot s k ≤ x ∧ x < tot s (k + 1) := by
  have m1 := h.m1
  have m2 := h.m2
  subst hL
  have c := fun j => step_cmp (x := x) h j
  generalize (x * (bo s : Rat)).floor = L at c
  obtain ⟨k, o', e6, r⟩ := search (S := S) (o0 := some (ln s)) (o1 := some (.int s.m)) (o5 := some (.int (bo s))) h c 18 0 (s.m - 1) none (by omega) (by omega) (by omega) (by omega) (by rw [tot_zero]; exact h0) (by rw [show s.m - 1 + 1 = s.m by omega]; exact hm) 1000 (by decide)
  have e7 : c_step_at_3 [some (ln s), some (.int s.m), some (.int L), some (.int (ev s)), some (.int (ri s)), some (.int (bo s)), some (.int 0), some (.int (s.m - 1)), none] S = _ := e6
  refine ⟨k, ?_, r⟩
  unfold F_step_at b_step_at
  refine run_eq0 ?_ (by simp [Pl])
  refine (seq_nx (ρ' := [some (ln s), some (.int s.m), some (.int L), some (.int (ev s)), some (.int (ri s)), some (.int (bo s)), none, none, none]) (S' := S) (by simp [c_step_at_0, ln]) _).trans ?_
  refine (seq_nx (ρ' := [some (ln s), some (.int s.m), some (.int L), some (.int (ev s)), some (.int (ri s)), some (.int (bo s)), some (.int 0), none, none]) (S' := S) (by simp [c_step_at_1]) _).trans ?_
  refine (seq_nx (ρ' := [some (ln s), some (.int s.m), some (.int L), some (.int (ev s)), some (.int (ri s)), some (.int (bo s)), some (.int 0), some (.int (s.m - 1)), none]) (S' := S) (by simp [c_step_at_2]) _).trans ?_
  refine (seq_nx e7 _).trans ?_
  simp [c_step_at_4]
theorem place_within_ok {n : Nat} (h : Sok B s) (hx : Bq n x) (hn : n + 2 * B + 80 ≤ 13000) (h0 : 0 ≤ x) (hm : x < tot s s.m) (S : Sto) :
    ∃ y : Rat, F_place_within [ln s, .int s.m, fq x] S = .ok (fq y) S ∧ 0 ≤ y ∧ y < (s.m : Rat) ∧ mw s y = x ∧ Bq (n + 2 * B + 80) y := by
  obtain ⟨k, e1, k0, km, t1, t2⟩ := step_at_ok h rfl h0 hm S
  rw [← fdiv_fl] at e1
  have m2 := h.m2
  have hk : k.natAbs < 2 ^ 18 := by omega
  have lp := len_pos h k0 km
  have l0 : len s k ≠ 0 := by grind
  obtain ⟨g1, g2, g3, g4, g5, g6⟩ := ln_k h hk
  have d : (x.den : Int).natAbs < 2 ^ n := by rw [den_abs]; exact hx.2
  have dp := den_pos x
  have bp := bo_pos h
  obtain ⟨y0, y1, y2⟩ := mw_back h k0 km t1 t2
  -- within and part
  have T := ln_tot h k
  have L := ln_len h k
  have X := num_den x
  have hw : ((ev s + (2 * k + 1) * ri s) * (x.den : Int)).natAbs < 2 ^ (n + 2 * B + 40) := pow_mono (mul_lt g5 d) (by omega)
  have ht : (x.num * bo s).natAbs < 2 ^ (n + 2 * B + 50) := pow_mono (mul_lt hx.1 (ln_lt h).2.2.1) (by omega)
  have hs : (k * (ev s + k * ri s) * (x.den : Int)).natAbs < 2 ^ (n + 2 * B + 50) := pow_mono (mul_lt g6 d) (by omega)
  have hp : (x.num * bo s - k * (ev s + k * ri s) * (x.den : Int)).natAbs < 2 ^ (n + 2 * B + 60) := pow_mono (sub_lt ht hs) (by omega)
  have ha : (k * ((ev s + (2 * k + 1) * ri s) * (x.den : Int)) + (x.num * bo s - k * (ev s + k * ri s) * (x.den : Int))).natAbs < 2 ^ (n + 2 * B + 80) :=
    pow_mono (add_lt (n := n + 2 * B + 60) (pow_mono (mul_lt hk hw) (by omega)) hp) (by omega)
  have wq : (((ev s + (2 * k + 1) * ri s) * (x.den : Int) : Int) : Rat) = len s k * (bo s : Rat) * ((x.den : Int) : Rat) := by
    rw [Rat.intCast_mul, L]
  have w0 : (((ev s + (2 * k + 1) * ri s) * (x.den : Int) : Int) : Rat) ≠ 0 := by
    rw [wq]
    have := Rat.mul_pos (Rat.mul_pos lp bp) dp
    grind
  have w0i : (ev s + (2 * k + 1) * ri s) * (x.den : Int) ≠ 0 := fun e => w0 (by rw [e]; rfl)
  have val : ((k * ((ev s + (2 * k + 1) * ri s) * (x.den : Int)) + (x.num * bo s - k * (ev s + k * ri s) * (x.den : Int)) : Int) : Rat) / (((ev s + (2 * k + 1) * ri s) * (x.den : Int) : Int) : Rat) = (k : Rat) + (x - tot s k) / len s k := by
    refine div_of ?_ w0
    rw [Rat.intCast_add, Rat.intCast_sub, Rat.intCast_mul (a := k) (b := (ev s + (2 * k + 1) * ri s) * (x.den : Int)), wq, Rat.intCast_mul (a := k * (ev s + k * ri s)), T, Rat.intCast_mul (a := x.num), ← X]
    have hd : (x - tot s k) / len s k * len s k = x - tot s k := by grind
    grind
  have e := lowest_ok S w0i (pow_mono ha (by omega)) (pow_mono hw (by omega))
  rw [divInt_div, val] at e
  have by' := Bq_divInt (n := n + 2 * B + 80) w0i ha (pow_mono hw (by omega))
  rw [divInt_div, val] at by'
  refine ⟨_, ?_, y0, y1, y2, by'⟩
  have q1 : mulOk x.num (bo s) = true := mulOk_of hx.1 (ln_lt h).2.2.1 (by omega)
  have q2 : divOk (x.num * bo s) x.den = true := divOk_any (den_ne x) (pow_mono ht (by omega))
  have q3 : mulOk (ev s + (2 * k + 1) * ri s) (x.den : Int) = true := mulOk_of g5 d (by omega)
  have q4 : mulOk (k * (ev s + k * ri s)) (x.den : Int) = true := mulOk_of g6 d (by omega)
  have q5 : mulOk k ((ev s + (2 * k + 1) * ri s) * (x.den : Int)) = true := mulOk_of hk hw (by omega)
  unfold F_place_within b_place_within
  refine run_eq0 ?_ pl_fq
  refine (seq_nx (ρ' := [some (ln s), some (.int s.m), some (fq x), some (.int (ev s)), some (.int (ri s)), some (.int (bo s)), none, none, none, none]) (S' := S) (by simp [c_place_within_0, ln]) _).trans ?_
  refine (seq_nx (ρ' := [some (ln s), some (.int s.m), some (fq x), some (.int (ev s)), some (.int (ri s)), some (.int (bo s)), some (.int (x.num * bo s)), none, none, none]) (S' := S) (by simp only [fq]; simp [c_place_within_1, oMul_int, q1]) _).trans ?_
  refine (seq_nx (ρ' := [some (ln s), some (.int s.m), some (fq x), some (.int (ev s)), some (.int (ri s)), some (.int (bo s)), some (.int (x.num * bo s)), some (.int k), none, none]) (S' := S) (by simp only [fq]; simp [c_place_within_2, q2, e1]) _).trans ?_
  refine (seq_nx (ρ' := [some (ln s), some (.int s.m), some (fq x), some (.int (ev s)), some (.int (ri s)), some (.int (bo s)), some (.int (x.num * bo s)), some (.int k), some (.int ((ev s + (2 * k + 1) * ri s) * (x.den : Int))), none]) (S' := S) (by simp only [fq]; simp [c_place_within_3, g1, g2, q3]) _).trans ?_
  refine (seq_nx (ρ' := [some (ln s), some (.int s.m), some (fq x), some (.int (ev s)), some (.int (ri s)), some (.int (bo s)), some (.int (x.num * bo s)), some (.int k), some (.int ((ev s + (2 * k + 1) * ri s) * (x.den : Int))), some (.int (x.num * bo s - k * (ev s + k * ri s) * (x.den : Int)))]) (S' := S) (by simp only [fq]; simp [c_place_within_4, g3, g4, q4]) _).trans ?_
  simp [c_place_within_5, q5, e]
theorem num_pos (r : Rat) : (0 < r.num) = (0 < r) := by
  have h1 := @Rat.num_nonneg r
  have h2 := @Rat.num_eq_zero r
  refine propext ⟨fun h => ?_, fun h => ?_⟩
  · have a := h1.mp (by omega)
    have b : r ≠ 0 := fun e => by rw [e] at h; exact absurd h (by decide)
    grind
  · have a := h1.mpr (by grind)
    have b : r.num ≠ 0 := fun e => by have := h2.mp e; grind
    omega
theorem from_nought_ok (h : 0 ≤ p) (S : Sto) : F_is_from_nought [fq p] S = .ok (.bl true) S := by
  have e1 := fun S => is_fraction_ok (p := p) S
  have e2 : 0 ≤ p.num := Rat.num_nonneg.mpr h
  unfold F_is_from_nought b_is_from_nought
  refine run_eq0 ?_ (by simp [Pl])
  simp only [fq] at e1 ⊢
  simp [c_is_from_nought_0, e1, e2]
theorem above_nought_ok (h : 0 < p) (S : Sto) : F_is_above_nought [fq p] S = .ok (.bl true) S := by
  have e1 := fun S => is_fraction_ok (p := p) S
  have e2 : 0 < p.num := by rw [num_pos]; exact h
  unfold F_is_above_nought b_is_above_nought
  refine run_eq0 ?_ (by simp [Pl])
  simp only [fq] at e1 ⊢
  simp [c_is_above_nought_0, e1, e2]
theorem is_whole_ok (i : Int) (S : Sto) : F_is_whole [.int i] S = .ok (.bl true) S := by
  unfold F_is_whole b_is_whole
  refine run_eq0 ?_ (by simp [Pl])
  simp [c_is_whole_0]
theorem is_tuple_ok (xs : List D) (n : Nat) (h : xs.length = n) (S : Sto) : F_is_tuple_of [.tup xs, .int n] S = .ok (.bl true) S := by
  unfold F_is_tuple_of b_is_tuple_of
  refine run_eq0 ?_ (by simp [Pl])
  simp [c_is_tuple_of_0, h]
theorem within_ok {i a b : Int} (h1 : a ≤ i) (h2 : i ≤ b) (S : Sto) : F_is_whole_within [.int i, .int a, .int b] S = .ok (.bl true) S := by
  unfold F_is_whole_within b_is_whole_within
  refine run_eq0 ?_ (by simp [Pl])
  simp [c_is_whole_within_0, eChain, h1, h2]
theorem is_stretch_ok (h : Sok B s) (S : Sto) : F_is_stretch [sd s] S = .ok (.bl true) S := by
  have e1 := fun S => is_tuple_ok [.int s.m, fq s.f, fq s.l] 3 rfl S
  have e2 := fun S => within_ok h.m1 h.m2 S
  have e3 := fun S => above_nought_ok h.f0 S
  have e4 := fun S => above_nought_ok h.l0 S
  unfold F_is_stretch b_is_stretch
  refine run_eq0 ?_ (by simp [Pl])
  refine (seq_nx (ρ' := [some (sd s), none, none, none]) (S' := S) (by
    have := e1 S
    simp only [sd]
    simp at this
    simp [c_is_stretch_0, this]) _).trans ?_
  refine (seq_nx (ρ' := [some (sd s), some (.int s.m), some (fq s.f), some (fq s.l)]) (S' := S) (by simp [c_is_stretch_1, sd]) _).trans ?_
  simp [c_is_stretch_2, e2, e3, e4]
end
section
variable {B : Nat} {s t : St}
theorem goes_on_ok (h : Sok B s) (h' : Sok B t) (S : Sto) : F_goes_on [sd s, sd t] S = .ok (.bl (decide (s.l = t.f ∧ rise s = rise t))) S := by
  have e1 := fun S => rise_ok h S
  have e2 := fun S => rise_ok h' S
  have i1 : ∀ S, oIx (sd s) (.int 2) S = .ok (fq s.l) S := fun S => rfl
  have i2 : ∀ S, oIx (sd t) (.int 1) S = .ok (fq t.f) S := fun S => rfl
  unfold F_goes_on b_goes_on
  refine run_eq0 ?_ (by simp [Pl])
  by_cases hl : s.l = t.f
  · by_cases hr : rise s = rise t
    · simp [c_goes_on_0, i1, i2, hl, e1, e2, hr]
    · simp [c_goes_on_0, i1, i2, hl, e1, e2, hr]
  · simp [c_goes_on_0, i1, i2, hl]
end
end Fx
set_option Elab.async false
set_option linter.all false
set_option maxRecDepth 100000
/-! loops and comprehensions: what is wanted of them -/
namespace DV
open PySem L2
/-- what is iterated: n things, whatever the loop does -/
def It.Is (it : Itd) (n : Nat) (xs : Nat → D) (S : Sto) : Prop := ∀ i, i ≤ n → it.at' i S = some (if i < n then some (xs i) else none)
theorem isTup (xs : List D) (S : Sto) : It.Is (.tup xs) xs.length (fun i => xs[i]?.getD .non) S := fun i hi => by
  by_cases h : i < xs.length
  · simp [Itd.at', h]
  · simp [Itd.at', show i = xs.length by omega]
theorem isVl (xs : List D) (S : Sto) : It.Is (.vlst xs) xs.length (fun i => xs[i]?.getD .non) S := fun i hi => by
  by_cases h : i < xs.length
  · simp [Itd.at', h]
  · simp [Itd.at', show i = xs.length by omega]
theorem isRng (lo : Int) (n : Nat) (S : Sto) : It.Is (.rng lo n) n (fun i => .int (lo + i)) S := fun i hi => by
  simp [Itd.at']
theorem isLst {n : Nat} {xs : List D} {S : Sto} (h : S[n]? = some (.lst xs)) : It.Is (.lst n) xs.length (fun i => xs[i]?.getD .non) S := fun i hi => by
  by_cases h' : i < xs.length
  · simp [Itd.at', h, h']
  · simp [Itd.at', h, show i = xs.length by omega]
theorem isZipT (xs ys : List D) (S : Sto) (h : xs.length = ys.length) : It.Is (.zipT xs ys) xs.length (fun i => .tup [xs[i]?.getD .non, ys[i]?.getD .non]) S := fun i hi => by
  by_cases h' : i < xs.length
  · simp [Itd.at', h', show i < ys.length by omega]
  · simp [Itd.at', show i = xs.length by omega]
theorem isZipV (xs ys : List D) (S : Sto) (h : xs.length = ys.length) : It.Is (.zipV xs ys) xs.length (fun i => .tup [xs[i]?.getD .non, ys[i]?.getD .non]) S := fun i hi => by
  by_cases h' : i < xs.length
  · simp [Itd.at', h', show i < ys.length by omega]
  · simp [Itd.at', show i = xs.length by omega]
/-- the ends of a loop's suite -/
def loP (N : Pq) (I : Lc → Sto → Prop) : Pq := ⟨I, N.rt, N.ex, N.nx, I⟩
theorem ws_forGo {it : Itd} {t : Tg} {b : SF} {N : Pq} {n : Nat} {xs : Nat → D} (P : Nat → Lc → Sto → Prop)
    (hat : ∀ i ρ S, i ≤ n → P i ρ S → it.at' i S = some (if i < n then some (xs i) else none))
    (step : ∀ i ρ S, i < n → P i ρ S → ∃ ρ1, t.put (xs i) ρ S = some ρ1 ∧ Ws (b ρ1 S) (loP N (P (i + 1))))
    (stop : ∀ ρ S, P n ρ S → N.nx ρ S) : ∀ m i ρ S, n ≤ m + i → i ≤ n → P i ρ S → Ws (forGo it t b m i ρ S) N
  | m, i, ρ, S, h1, h2, p => by
    have a := hat i ρ S h2 p
    unfold forGo
    by_cases hi : i < n
    · rw [if_pos hi] at a
      simp only [a]
      match m with
      | 0 => omega
      | m + 1 =>
        obtain ⟨ρ1, e1, w⟩ := step i ρ S hi p
        simp only [e1]
        cases e : b ρ1 S with
        | nx ρ' S' => rw [e] at w; exact ws_forGo P hat step stop m (i + 1) ρ' S' (by omega) (by omega) w
        | ct ρ' S' => rw [e] at w; exact ws_forGo P hat step stop m (i + 1) ρ' S' (by omega) (by omega) w
        | bk ρ' S' => rw [e] at w; exact w
        | rt d S' => rw [e] at w; exact w
        | ex c ρ' S' => rw [e] at w; exact w
        | no => rw [e] at w; exact w.elim
    · rw [if_neg hi] at a
      simp only [a]
      have : i = n := by omega
      subst this
      exact stop ρ S p
/-- a loop over what is known to be iterated -/
theorem ws_for {a : IF} {it : Itd} {t : Tg} {b : SF} {N : Pq} {ρ : Lc} {S S1 : Sto} {n : Nat} {xs : Nat → D} (ha : a ρ S = .ok it S1) (P : Nat → Lc → Sto → Prop)
    (hsz : it.size S1 = n)
    (hat : ∀ i ρ S, i ≤ n → P i ρ S → it.at' i S = some (if i < n then some (xs i) else none)) (h0 : P 0 ρ S1)
    (step : ∀ i ρ S, i < n → P i ρ S → ∃ ρ1, t.put (xs i) ρ S = some ρ1 ∧ Ws (b ρ1 S) (loP N (P (i + 1))))
    (stop : ∀ ρ S, P n ρ S → N.nx ρ S) : Ws (sFor a t b ρ S) N := by
  simp only [sFor, ha, sb_ok, hsz]
  exact ws_forGo P hat step stop n 0 ρ S1 (by omega) (by omega) h0
/-- over a tuple or a list by value -/
theorem ws_forV {α : Type} {a : IF} {it : Itd} {t : Tg} {b : SF} {N : Pq} {ρ : Lc} {S S1 : Sto} {qs : List α} {g : α → D} (ha : a ρ S = .ok it S1) (hit : it = .tup (qs.map g) ∨ it = .vlst (qs.map g)) (P : Nat → Lc → Sto → Prop) (h0 : P 0 ρ S1)
    (step : ∀ (i : Nat) (h : i < qs.length) ρ S, P i ρ S → ∃ ρ1, t.put (g qs[i]) ρ S = some ρ1 ∧ Ws (b ρ1 S) (loP N (P (i + 1))))
    (stop : ∀ ρ S, P qs.length ρ S → N.nx ρ S) : Ws (sFor a t b ρ S) N := by
  refine ws_for (n := qs.length) (xs := fun i => (qs.map g)[i]?.getD .non) ha P ?_ ?_ h0 ?_ stop
  · rcases hit with rfl | rfl <;> simp [Itd.size]
  · intro i ρ S hi _
    rcases hit with rfl | rfl
    · simpa using isTup (qs.map g) S i (by simpa using hi)
    · simpa using isVl (qs.map g) S i (by simpa using hi)
  · intro i ρ S hi p
    have := step i hi ρ S p
    simpa [hi] using this
/-- over a list of the store that the loop leaves as it is -/
theorem ws_forO {α : Type} {a : IF} {k : Nat} {t : Tg} {b : SF} {N : Pq} {ρ : Lc} {S S1 : Sto} {qs : List α} {g : α → D} (ha : a ρ S = .ok (.lst k) S1) (P : Nat → Lc → Sto → Prop) (h0 : P 0 ρ S1)
    (hl : ∀ i ρ S, P i ρ S → S[k]? = some (.lst (qs.map g)))
    (step : ∀ (i : Nat) (h : i < qs.length) ρ S, P i ρ S → ∃ ρ1, t.put (g qs[i]) ρ S = some ρ1 ∧ Ws (b ρ1 S) (loP N (P (i + 1))))
    (stop : ∀ ρ S, P qs.length ρ S → N.nx ρ S) : Ws (sFor a t b ρ S) N := by
  refine ws_for (n := qs.length) (xs := fun i => (qs.map g)[i]?.getD .non) ha P ?_ ?_ h0 ?_ stop
  · simp [Itd.size, hl _ _ _ h0]
  · intro i ρ S hi p
    simpa using isLst (hl _ _ _ p) i (by simpa using hi)
  · intro i ρ S hi p
    have := step i hi ρ S p
    simpa [hi] using this
/-- over range(n) -/
theorem ws_forR {a : IF} {lo : Int} {n : Nat} {t : Tg} {b : SF} {N : Pq} {ρ : Lc} {S S1 : Sto} (ha : a ρ S = .ok (.rng lo n) S1) (P : Nat → Lc → Sto → Prop) (h0 : P 0 ρ S1)
    (step : ∀ (i : Nat) (h : i < n) ρ S, P i ρ S → ∃ ρ1, t.put (.int (lo + i)) ρ S = some ρ1 ∧ Ws (b ρ1 S) (loP N (P (i + 1))))
    (stop : ∀ ρ S, P n ρ S → N.nx ρ S) : Ws (sFor a t b ρ S) N :=
  ws_for (n := n) (xs := fun i => .int (lo + i)) ha P rfl (fun i ρ S hi _ => isRng lo n S i hi) h0 (fun i ρ S hi p => step i hi ρ S p) stop
/-! equations of loops whose steps are known -/
theorem nx_forGo {it : Itd} {t : Tg} {b : SF} {n : Nat} {xs : Nat → D} (st : Nat → Lc) (S : Sto)
    (hat : ∀ i, i ≤ n → it.at' i S = some (if i < n then some (xs i) else none))
    (step : ∀ i, i < n → ∃ ρ1, t.put (xs i) (st i) S = some ρ1 ∧ b ρ1 S = .nx (st (i + 1)) S) : ∀ m i, n ≤ m + i → i ≤ n → forGo it t b m i (st i) S = .nx (st n) S
  | m, i, h1, h2 => by
    have a := hat i h2
    unfold forGo
    by_cases hi : i < n
    · rw [if_pos hi] at a
      simp only [a]
      match m with
      | 0 => omega
      | m + 1 =>
        obtain ⟨ρ1, e1, w⟩ := step i hi
        simp only [e1, w]
        exact nx_forGo st S hat step m (i + 1) (by omega) (by omega)
    · rw [if_neg hi] at a
      simp only [a]
      have : i = n := by omega
      subst this
      rfl
/-! ### comprehensions -/
section
variable {it : Itd} {t : Tg} {c : TF} {e : EF} {ρ : Lc} {S0 : Sto} {n : Nat} {xs : Nat → D} {Q : D → Sto → Prop} {E : Str → Sto → Prop}
def nE : Str → Sto → Prop := fun _ _ => False
theorem wp_lcGo {k : Nat} (P : Nat → List D → Sto → Prop)
    (hat : ∀ i acc T, i ≤ n → P i acc T → it.at' i (T ++ [.lst acc]) = some (if i < n then some (xs i) else none))
    (hk : ∀ i acc T, P i acc T → T.length = k ∧ acc.length ≤ i)
    (step : ∀ i acc T, i < n → P i acc T → ∃ ρ1, t.put (xs i) ρ (T ++ [.lst acc]) = some ρ1 ∧
      Wp (c ρ1 (T ++ [.lst acc])) (fun b U => ∃ T1, U = T1 ++ [.lst acc] ∧ T1.length = k ∧ (b = true → Wp (e ρ1 U) (fun y V => ∃ T2, V = T2 ++ [.lst acc] ∧ T2.length = k ∧ P (i + 1) (acc ++ [y]) T2) nE) ∧ (b = false → P (i + 1) acc T1)) nE)
    (hn : n ≤ 1000000)
    (stop : ∀ acc T, P n acc T → Q (.ob k) (T ++ [.lst acc])) : ∀ m i acc T, n ≤ m + i → i ≤ n → P i acc T → Wp (lcGo it t c e ρ k m i (T ++ [.lst acc])) Q nE
  | m, i, acc, T, h1, h2, p => by
    have a := hat i acc T h2 p
    obtain ⟨hT, hacc⟩ := hk i acc T p
    unfold lcGo
    by_cases hi : i < n
    · rw [if_pos hi] at a
      simp only [a]
      match m with
      | 0 => omega
      | m + 1 =>
        obtain ⟨ρ1, e1, w⟩ := step i acc T hi p
        simp only [e1]
        cases ec : c ρ1 (T ++ [.lst acc]) with
        | no => rw [ec] at w; exact w.elim
        | ex _ _ => rw [ec] at w; exact w.elim
        | ok b U =>
          rw [ec] at w
          obtain ⟨T1, rfl, hT1, w1, w2⟩ := w
          cases b with
          | false => exact wp_lcGo P hat hk step hn stop m (i + 1) acc T1 (by omega) (by omega) (w2 rfl)
          | true =>
            have w3 := w1 rfl
            cases ee : e ρ1 (T1 ++ [.lst acc]) with
            | no => rw [ee] at w3; exact w3.elim
            | ex _ _ => rw [ee] at w3; exact w3.elim
            | ok y V =>
              rw [ee] at w3
              obtain ⟨T2, rfl, hT2, p'⟩ := w3
              have g : szOk acc.length = true := gd_of (by omega)
              have at2 : (T2 ++ [O.lst acc])[k]? = some (.lst acc) := by rw [← hT2]; simp
              have set2 : (T2 ++ [O.lst acc]).set k (.lst (acc ++ [y])) = T2 ++ [.lst (acc ++ [y])] := by rw [← hT2]; simp
              simp only [ee, at2, g, if_true, set2]
              exact wp_lcGo P hat hk step hn stop m (i + 1) (acc ++ [y]) T2 (by omega) (by omega) p'
    · rw [if_neg hi] at a
      simp only [a]
      have : i = n := by omega
      subst this
      exact stop acc T p
/-- a comprehension; what it makes is by value -/
theorem wp_lc {a : IF} {own : List Nat} {S S1 : Sto} (ha : a ρ S = .ok it S1) (P : Nat → List D → Sto → Prop)
    (hsz : it.size S1 = n)
    (hat : ∀ i acc T, i ≤ n → P i acc T → it.at' i (T ++ [.lst acc]) = some (if i < n then some (xs i) else none))
    (hn : n ≤ 1000000) (h0 : P 0 [] S1)
    (hk : ∀ i acc T, P i acc T → Kp S1 T ∧ acc.length ≤ i ∧ Pls 39 acc)
    (step : ∀ i acc T, i < n → P i acc T → ∃ ρ1, t.put (xs i) (wipeD ρ own) (T ++ [.lst acc]) = some ρ1 ∧
      Wp (c ρ1 (T ++ [.lst acc])) (fun b U => ∃ T1, U = T1 ++ [.lst acc] ∧ T1.length = S1.length ∧ (b = true → Wp (e ρ1 U) (fun y V => ∃ T2, V = T2 ++ [.lst acc] ∧ T2.length = S1.length ∧ P (i + 1) (acc ++ [y]) T2) nE) ∧ (b = false → P (i + 1) acc T1)) nE)
    (stop : ∀ acc T, P n acc T → Q (.lst acc) T) : Wp (eLc a t c e own ρ S) Q E := by
  have w := wp_lcGo (Q := fun d V => ∃ acc T, d = .ob S1.length ∧ V = T ++ [.lst acc] ∧ P n acc T) (k := S1.length) (ρ := wipeD ρ own) P hat (fun i acc T p => ⟨(hk i acc T p).1.len, (hk i acc T p).2.1⟩) step hn (fun acc T p => ⟨acc, T, rfl, rfl, p⟩) n 0 [] S1 (by omega) (by omega) h0
  obtain ⟨d, V, ee, acc, T, rfl, rfl, p⟩ := w.get
  obtain ⟨kp, _, pl⟩ := hk n acc T p
  simp only [eLc, ha, bind_ok, hsz, ee]
  have f : frz S1.length (T ++ [O.lst acc]) 40 (.ob S1.length) = some (.lst acc) := by
    have l : ¬ S1.length < S1.length := by omega
    have at2 : (T ++ [O.lst acc])[S1.length]? = some (.lst acc) := by rw [← kp.len]; simp
    simp only [frz]
    simp [at2, frzs_pl 39 acc pl]
  simp only [dropR, f, kp.drop]
  exact stop acc T p
end
/-- a comprehension over a tuple or a list by value whose element changes nothing -/
theorem lc_map {α : Type} {a : IF} {it : Itd} {t : Tg} {e : EF} {own : List Nat} {ρ : Lc} {S S1 : Sto} {qs : List α} {g f : α → D} (ha : a ρ S = .ok it S1) (hit : it = .tup (qs.map g) ∨ it = .vlst (qs.map g))
    (hq : qs.length ≤ 1000000) (hf : ∀ q ∈ qs, Pl 38 (f q))
    (step : ∀ q ∈ qs, ∀ S2, ∃ ρ1, t.put (g q) (wipeD ρ own) S2 = some ρ1 ∧ e ρ1 S2 = .ok (f q) S2) :
    eLc a t cYes e own ρ S = .ok (.lst (qs.map f)) S1 := by
  refine eq_of_wp (wp_lc (n := qs.length) (xs := fun i => (qs.map g)[i]?.getD .non) ha (fun i acc T => T = S1 ∧ acc = (qs.take i).map f) ?_ ?_ hq (by simp) ?_ ?_ ?_)
  · rcases hit with rfl | rfl <;> simp [Itd.size]
  · intro i acc T hi _
    rcases hit with rfl | rfl
    · simpa using isTup (qs.map g) (T ++ [.lst acc]) i (by simpa using hi)
    · simpa using isVl (qs.map g) (T ++ [.lst acc]) i (by simpa using hi)
  · rintro i acc T ⟨rfl, rfl⟩
    refine ⟨.rfl', by simp; omega, pls_iff.mpr ?_⟩
    intro d hd
    obtain ⟨q, hq, rfl⟩ := List.mem_map.mp hd
    exact hf q (List.mem_of_mem_take hq)
  · rintro i acc T hi ⟨rfl, rfl⟩
    obtain ⟨ρ1, e1, e2⟩ := step qs[i] (List.getElem_mem hi) (T ++ [.lst ((qs.take i).map f)])
    refine ⟨ρ1, by simpa [hi] using e1, ?_⟩
    rw [cYes_eq]
    refine ⟨T, rfl, rfl, fun _ => ?_, fun h => by cases h⟩
    rw [e2]
    refine ⟨T, rfl, rfl, rfl, ?_⟩
    rw [List.take_succ, List.map_append]; simp [hi]
  · rintro acc T ⟨rfl, rfl⟩
    simp
/-- the same with a condition -/
theorem lc_filter {α : Type} {a : IF} {it : Itd} {t : Tg} {c : TF} {e : EF} {own : List Nat} {ρ : Lc} {S S1 : Sto} {qs : List α} {g f : α → D} {k : α → Bool} (ha : a ρ S = .ok it S1) (hit : it = .tup (qs.map g) ∨ it = .vlst (qs.map g))
    (hq : qs.length ≤ 1000000) (hf : ∀ q ∈ qs, Pl 38 (f q))
    (step : ∀ q ∈ qs, ∀ S2, ∃ ρ1, t.put (g q) (wipeD ρ own) S2 = some ρ1 ∧ c ρ1 S2 = .ok (k q) S2 ∧ (k q = true → e ρ1 S2 = .ok (f q) S2)) :
    eLc a t c e own ρ S = .ok (.lst ((qs.filter k).map f)) S1 := by
  refine eq_of_wp (wp_lc (n := qs.length) (xs := fun i => (qs.map g)[i]?.getD .non) ha (fun i acc T => T = S1 ∧ acc = ((qs.take i).filter k).map f) ?_ ?_ hq (by simp) ?_ ?_ ?_)
  · rcases hit with rfl | rfl <;> simp [Itd.size]
  · intro i acc T hi _
    rcases hit with rfl | rfl
    · simpa using isTup (qs.map g) (T ++ [.lst acc]) i (by simpa using hi)
    · simpa using isVl (qs.map g) (T ++ [.lst acc]) i (by simpa using hi)
  · rintro i acc T ⟨rfl, rfl⟩
    refine ⟨.rfl', ?_, pls_iff.mpr ?_⟩
    · rw [List.length_map]
      exact Nat.le_trans (List.length_filter_le _ _) (by simp; omega)
    · intro d hd
      obtain ⟨q, hq, rfl⟩ := List.mem_map.mp hd
      exact hf q (List.mem_of_mem_take (List.mem_filter.mp hq).1)
  · rintro i acc T hi ⟨rfl, rfl⟩
    obtain ⟨ρ1, e1, e2, e3⟩ := step qs[i] (List.getElem_mem hi) (T ++ [.lst (((qs.take i).filter k).map f)])
    refine ⟨ρ1, by simpa [hi] using e1, ?_⟩
    rw [e2]
    have tk : qs.take (i + 1) = qs.take i ++ [qs[i]] := by rw [List.take_succ]; simp [hi]
    refine ⟨T, rfl, rfl, fun h => ?_, fun h => ⟨rfl, ?_⟩⟩
    · rw [e3 h]
      refine ⟨T, rfl, rfl, rfl, ?_⟩
      rw [tk, List.filter_append, List.map_append]
      simp [h]
    · rw [tk, List.filter_append, List.map_append]
      simp [h]
  · rintro acc T ⟨rfl, rfl⟩
    simp
theorem allBl_map {α : Type} (qs : List α) (f : α → Bool) : allBl (qs.map fun q => D.bl (f q)) = some (qs.map f) := by
  induction qs with
  | nil => rfl
  | cons q qs ih => simp only [List.map_cons, allBl, ih]; rfl
theorem allInt_map {α : Type} (qs : List α) (f : α → Int) : allInt (qs.map fun q => D.int (f q)) = some (qs.map f) := by
  induction qs with
  | nil => rfl
  | cons q qs ih => simp only [List.map_cons, allInt, ih]; rfl
/-- while: what is wanted -/
theorem ws_whGo {c : TF} {b : SF} {N : Pq} (P : Nat → Lc → Sto → Prop)
    (step : ∀ i ρ S, P i ρ S → Wp (c ρ S) (fun k S1 => if k = true then (∃ j, i = j + 1 ∧ Ws (b ρ S1) (loP N (P j))) else N.nx ρ S1) (fun cl S1 => N.ex cl ρ S1)) :
    ∀ m i ρ S, i ≤ m → P i ρ S → Ws (whGo c b m ρ S) N
  | m, i, ρ, S, hm, p => by
    have w := step i ρ S p
    unfold whGo
    cases ec : c ρ S with
    | no => rw [ec] at w; exact w.elim
    | ex cl S1 => rw [ec] at w; exact w
    | ok k S1 =>
      rw [ec] at w
      simp only [sb_ok]
      by_cases hk : k = true
      · simp only [wp_ok, hk, if_true] at w ⊢
        obtain ⟨j, rfl, w⟩ := w
        match m, hm with
        | m + 1, hm =>
          cases e : b ρ S1 with
          | nx ρ' S' => rw [e] at w; exact ws_whGo P step m j ρ' S' (by omega) w
          | ct ρ' S' => rw [e] at w; exact ws_whGo P step m j ρ' S' (by omega) w
          | bk ρ' S' => rw [e] at w; exact w
          | rt d S' => rw [e] at w; exact w
          | ex c ρ' S' => rw [e] at w; exact w
          | no => rw [e] at w; exact w.elim
      · simp only [wp_ok, hk, if_false] at w ⊢
        exact w
end DV
set_option Elab.async false
set_option linter.all false
set_option maxRecDepth 100000
set_option exponentiation.threshold 20000
/-! what is a tempo -/
namespace Fx
open PySem L2 DV
/-- a tempo as data -/
def td (ss : List St) (r : Rat) : D := .tup [.tup (ss.map sd), fq r]
/-- a right tempo -/
structure Tok (B : Nat) (ss : List St) (r : Rat) : Prop where
  n24 : ss.length ≤ 24
  all : ∀ s ∈ ss, Sok B s
  r0 : 0 < r
  br : Bq B r
  sum : (ss.map St.m).sum ≤ 200000
  plain : ∀ (i : Nat) (h : i + 1 < ss.length), ¬ (ss[i].l = ss[i + 1].f ∧ rise ss[i] = rise ss[i + 1])
  last : ∀ (h : ss ≠ []), ¬ ((ss.getLast h).f = r ∧ (ss.getLast h).l = r)
theorem cn_sd {s : St} {k : Nat} : Cn (k + 5) (sd s) := by
  simp only [sd, Cn, Cns]
  exact ⟨trivial, cn_fq, cn_fq, trivial⟩
theorem cn_td {ss : List St} {r : Rat} {k : Nat} : Cn (k + 9) (td ss r) := by
  simp only [td, Cn, Cns, and_true]
  refine ⟨cns_iff.mpr fun d hd => ?_, cn_fq⟩
  obtain ⟨s, _, rfl⟩ := List.mem_map.mp hd
  exact cn_sd
theorem pl_td {ss : List St} {r : Rat} {k : Nat} : Pl (k + 9) (td ss r) := cn_td.pl
theorem oNe_pair (p q p' q' : Rat) (S : Sto) : oNe (.tup [fq p, fq q]) (.tup [fq p', fq q']) S = .ok (.bl (!decide (p = p' ∧ q = q'))) S := by
  rw [oNe_cn (by simp only [Cn, Cns, and_true]; exact ⟨cn_fq, cn_fq⟩) (by simp only [Cn, Cns, and_true]; exact ⟨cn_fq, cn_fq⟩)]
  have : gd (D.tup [fq p, fq q] = D.tup [fq p', fq q']) = decide (p = p' ∧ q = q') := by
    by_cases h : p = p' ∧ q = q'
    · rw [decide_eq_true h, gd_of (by rw [h.1, h.2])]
    · rw [decide_eq_false h]
      cases z : gd (D.tup [fq p, fq q] = D.tup [fq p', fq q']) with
      | true =>
        have := of_gd z
        simp only [D.tup.injEq, List.cons.injEq, and_true] at this
        exact absurd ⟨fq_inj.mp this.1, fq_inj.mp this.2⟩ h
      | false => rfl
  rw [this]
section
variable {B : Nat} {ss : List St} {r : Rat} {S : Sto}
theorem at_last {α β : Type} {ss : List α} {g : α → β} (he : ss ≠ []) : atI (ss.map g) (-1) = some (g (ss.getLast he)) := by
  have hp : 0 < ss.length := List.length_pos_iff.mpr he
  unfold atI ixN
  rw [List.length_map, if_neg (by decide), if_pos (by omega)]
  rw [show (-1 + (ss.length : Int)).toNat = ss.length - 1 by omega]
  simp only [Option.bind_some, List.getElem?_map, List.getLast_eq_getElem]
  rw [List.getElem?_eq_getElem (by omega)]; rfl
theorem is_plain_ok (h : Tok B ss r) (S : Sto) : F_is_plain [.tup (ss.map sd), fq r] S = .ok (.bl true) S := by
  have n24 := h.n24
  refine eq_of_wp (wp_run ?_)
  show Ws (b_is_plain [some (.tup (ss.map sd)), some (fq r), none] S) _
  unfold b_is_plain
  refine ws_seq ?_
  refine ws_forR (lo := 1) (n := ss.length - 1) (S1 := S) ?_ (fun i ρ S' => ∃ y, ρ = [some (.tup (ss.map sd)), some (fq r), y] ∧ S' = S) ⟨_, rfl, rfl⟩ ?_ ?_
  · have g : gd (-(2 ^ 62) ≤ (1 : Int) ∧ (1 : Int) < 2 ^ 62 ∧ -(2 ^ 62) ≤ (ss.length : Int) ∧ (ss.length : Int) < 2 ^ 62) = true := gd_of (by omega)
    simp only [iRng_eq, aCons_eq, aNil_eq, eC_eq, bind_ok, eB_eq, eVar_0, cLen_tup, List.length_map, g, if_true]
    rw [show ((ss.length : Int) - 1).toNat = ss.length - 1 by omega]
  · rintro i hi ρ S' ⟨y, rfl, rfl⟩
    have g := fun S => goes_on_ok (h.all ss[i] (List.getElem_mem _)) (h.all ss[i + 1] (List.getElem_mem (by omega))) S
    simp only [decide_eq_false (h.plain i (by omega))] at g
    have i1 : atI (ss.map sd) ((1 : Int) + (i : Int) - 1) = some (sd ss[i]) := by
      rw [show (1 : Int) + (i : Int) - 1 = (i : Int) by omega, atI_cast, List.getElem?_map, List.getElem?_eq_getElem (by omega)]
      rfl
    have i2 : atI (ss.map sd) ((1 : Int) + (i : Int)) = some (sd ss[i + 1]) := by
      rw [show (1 : Int) + (i : Int) = ((i + 1 : Nat) : Int) by omega, atI_cast, List.getElem?_map, List.getElem?_eq_getElem (by omega)]
      rfl
    refine ⟨_, put_nm _ _ _ _, ?_⟩
    have e : c_is_plain_0_0 [some (.tup (ss.map sd)), some (fq r), some (.int ((1 : Int) + (i : Int)))] S' = .nx [some (.tup (ss.map sd)), some (fq r), some (.int ((1 : Int) + (i : Int)))] S' := by
      simp [c_is_plain_0_0, i1, i2, g]
    simp only [List.set]
    rw [e]
    exact ⟨_, rfl, rfl⟩
  · rintro ρ S' ⟨y, rfl, rfl⟩
    by_cases he : ss = []
    · subst he
      have : c_is_plain_1 [some (.tup (([] : List St).map sd)), some (fq r), y] S' = .rt (.bl true) S' := by simp [c_is_plain_1]
      dsimp only
      rw [this]
      exact end_pure0 (by simp [Pl]) ⟨rfl, rfl⟩
    · have i1 := at_last (g := sd) he
      have c1 : ∀ S, oSl (sd (ss.getLast he)) (some 1) none S = .ok (.tup [fq (ss.getLast he).f, fq (ss.getLast he).l]) S := fun S => rfl
      have l := h.last he
      have ne : ss.isEmpty = false := by simpa using he
      have : c_is_plain_1 [some (.tup (ss.map sd)), some (fq r), y] S' = .rt (.bl true) S' := by simp [c_is_plain_1, ne, i1, c1, oNe_pair, l]
      dsimp only
      rw [this]
      exact end_pure0 (by simp [Pl]) ⟨rfl, rfl⟩
theorem is_tempo_ok (h : Tok B ss r) (S : Sto) : F_is_tempo [td ss r] S = .ok (.bl true) S := by
  have n24 := h.n24
  have e1 := fun S => is_tuple_ok [.tup (ss.map sd), fq r] 2 rfl S
  have e2 := fun S => above_nought_ok h.r0 S
  have e3 := fun S => is_plain_ok h S
  have l1 : ∀ S, eLc (iSeq (eVar 1)) (.nm 3) cYes (eCall F_is_stretch (aCons (eVar 3) aNil)) [3] [some (td ss r), some (.tup (ss.map sd)), some (fq r), none] S = .ok (.lst (ss.map fun _ => D.bl true)) S := fun S =>
    lc_map (it := .tup (ss.map sd)) (qs := ss) (g := sd) (by simp) (.inl rfl) (by omega) (fun _ _ => by simp [Pl]) (by
      intro s hs S2
      have := is_stretch_ok (h.all s hs) S2
      exact ⟨_, put_nm _ _ _ _, by simp [wipeD, this]⟩)
  have l2 : ∀ S, eLc (iSeq (eVar 1)) (.nm 3) cYes (eOp oIx (eVar 3) (eC (.int 0))) [3] [some (td ss r), some (.tup (ss.map sd)), some (fq r), none] S = .ok (.lst (ss.map fun s => D.int s.m)) S := fun S =>
    lc_map (it := .tup (ss.map sd)) (qs := ss) (g := sd) (by simp) (.inl rfl) (by omega) (fun _ _ => by simp [Pl]) (by
      intro s hs S2
      exact ⟨_, put_nm _ _ _ _, by simp [wipeD, sd]⟩)
  have a1 : ∀ S, cAll [.lst (ss.map fun _ => D.bl true)] S = .ok (.bl true) S := fun S => by
    have := allBl_map ss (fun _ => true)
    simp only [cAll, lstOf_lst, this]
    simp
  have a2 : ∀ S, cSum [.lst (ss.map fun s => D.int s.m)] S = .ok (.int (ss.map St.m).sum) S := fun S => by
    have := allInt_map ss St.m
    simp only [cSum, lstOf_lst, this]
  unfold F_is_tempo b_is_tempo
  refine run_eq0 ?_ (by simp [Pl])
  refine (seq_nx (ρ' := [some (td ss r), none, none, none]) (S' := S) (by
    have := e1 S
    simp only [td]
    simp at this
    simp [c_is_tempo_0, this]) _).trans ?_
  refine (seq_nx (ρ' := [some (td ss r), some (.tup (ss.map sd)), some (fq r), none]) (S' := S) (by simp [c_is_tempo_1, td]) _).trans ?_
  refine (seq_nx (ρ' := [some (td ss r), some (.tup (ss.map sd)), some (fq r), none]) (S' := S) (by
    have : ¬ (24 : Int) < ss.length := by omega
    simp [c_is_tempo_2, this]) _).trans ?_
  refine (seq_nx (ρ' := [some (td ss r), some (.tup (ss.map sd)), some (fq r), none]) (S' := S) (by
    simp only [c_is_tempo_3, sIf_eq, bOr_eq, bNot_eq, tTru_eq, eCall_eq, aCons_eq, aNil_eq, eVar_s, eVar_0, bind_ok, e2, truD_bl, eB_eq, l1, a1, Bool.not_true, Bool.false_eq_true, if_false, sb_ok, sNil_eq]) _).trans ?_
  have sm := h.sum
  simp only [c_is_tempo_4, sRet_eq, eAnd_eq, eOp_eq, eB_eq, aCons_eq, aNil_eq, l2, bind_ok, a2, eC_eq, oLe_int, decide_eq_true sm, truD_bl, eCall_eq, eVar_s, eVar_0, e3, sb_ok]
theorem refuse_ok (h : Tok B ss r) (S : Sto) : F_refuse_no_tempo [td ss r] S = .ok .non S := by
  have e1 := is_tempo_ok h S
  refine eq_of_wp (wp_run ?_)
  show Ws (c_refuse_no_tempo_0 [some (td ss r)] S) _
  have : c_refuse_no_tempo_0 [some (td ss r)] S = .nx [some (td ss r)] S := by simp [c_refuse_no_tempo_0, e1]
  rw [this]
  exact ⟨S, [], by simp, .rfl', rfl, rfl⟩
theorem refuse_place_ok {p : Rat} (h : 0 ≤ p) (S : Sto) : F_refuse_no_place [fq p] S = .ok .non S := by
  have e1 := from_nought_ok h S
  refine eq_of_wp (wp_run ?_)
  show Ws (c_refuse_no_place_0 [some (fq p)] S) _
  have : c_refuse_no_place_0 [some (fq p)] S = .nx [some (fq p)] S := by simp [c_refuse_no_place_0, e1]
  rw [this]
  exact ⟨S, [], by simp, .rfl', rfl, rfl⟩
theorem refuse_moment_ok {p : Rat} (h : 0 ≤ p) (S : Sto) : F_refuse_no_moment [fq p] S = .ok .non S := by
  have e1 := from_nought_ok h S
  refine eq_of_wp (wp_run ?_)
  show Ws (c_refuse_no_moment_0 [some (fq p)] S) _
  have : c_refuse_no_moment_0 [some (fq p)] S = .nx [some (fq p)] S := by simp [c_refuse_no_moment_0, e1]
  rw [this]
  exact ⟨S, [], by simp, .rfl', rfl, rfl⟩
end
end Fx
set_option Elab.async false
set_option linter.all false
set_option maxRecDepth 100000
set_option exponentiation.threshold 20000
/-! sums over stretches; clocks -/
namespace DV
open PySem L2
section
variable {κ β : Type} [DecidableEq κ] {k k' : κ} {v : β}
theorem valK_put : ∀ {kvs : List (κ × β)}, valK (putKD kvs k v) k' = if k' = k then some v else valK kvs k' := by
  intro kvs
  unfold putKD
  by_cases h : (kvs.any fun kv => decide (kv.1 = k)) = true
  · rw [if_pos h]
    have z : valK (kvs.map fun kv => if kv.1 = k then (kv.1, v) else kv) k' = if k' = k then (valK kvs k').map (fun _ => v) else valK kvs k' := by
      clear h
      induction kvs with
      | nil => simp [valK]
      | cons p r ih =>
        rw [List.map_cons]
        by_cases hp : p.1 = k
        · rw [if_pos hp]
          by_cases hk : p.1 = k'
          · rw [valK_pos hk, valK_pos (p := (p.1, v)) hk]
            have : k' = k := by rw [← hk]; exact hp
            simp [this]
          · rw [valK_neg hk, valK_neg (p := (p.1, v)) hk, ih]
        · rw [if_neg hp]
          by_cases hk : p.1 = k'
          · have : ¬ k' = k := by rw [← hk]; exact hp
            rw [valK_pos hk, valK_pos hk, if_neg this]
          · rw [valK_neg hk, valK_neg hk, ih]
    rw [z]
    by_cases hk : k' = k
    · subst hk
      rw [if_pos rfl, if_pos rfl]
      have : ∃ u, valK kvs k' = some u := by
        obtain ⟨p, hp, hpk⟩ := List.any_eq_true.mp h
        unfold valK
        cases e : kvs.find? fun kv => decide (kv.1 = k') with
        | some u => exact ⟨u.2, rfl⟩
        | none => exact absurd (List.find?_eq_none.mp e p hp) (by simpa using hpk)
      obtain ⟨u, hu⟩ := this
      rw [hu]; rfl
    · rw [if_neg hk, if_neg hk]
  · rw [if_neg h]
    unfold valK
    rw [List.find?_append]
    by_cases hk : k' = k
    · subst hk
      have : kvs.find? (fun kv => decide (kv.1 = k')) = none := List.find?_eq_none.mpr fun p hp hq => h (List.any_eq_true.mpr ⟨p, hp, hq⟩)
      simp [this]
    · have : ¬ k = k' := fun e => hk e.symm
      simp [hk, this]
theorem putKD_len {kvs : List (κ × β)} : (putKD kvs k v).length ≤ kvs.length + 1 := by
  unfold putKD
  split <;> simp
theorem putKD_mem {kvs : List (κ × β)} {p : κ × β} (h : p ∈ putKD kvs k v) : p.2 = v ∨ p ∈ kvs := by
  unfold putKD at h
  split at h
  · obtain ⟨q, hq, e⟩ := List.mem_map.mp h
    split at e
    · subst e; exact .inl rfl
    · subst e; exact .inr hq
  · rcases List.mem_append.mp h with h | h
    · exact .inr h
    · simp at h; subst h; exact .inl rfl
end
theorem kp_set {S : Sto} {i : Nat} {o : O} (h : Fz S.length o) : Kp S (S.set i o) := ⟨by simp, fun j u hu => by
  by_cases e : i = j
  · subst e
    by_cases hi : i < S.length
    · rw [List.getElem?_set_self hi] at hu
      cases hu
      exact .inr h
    · rw [List.set_eq_of_length_le (by omega)] at hu
      exact .inl hu
  · rw [List.getElem?_set_ne e] at hu
    exact .inl hu⟩
theorem set_same {S : Sto} {i : Nat} {o : O} (h : S[i]? = some o) : S.set i o = S := by
  apply List.ext_getElem?
  intro j
  by_cases e : i = j
  · subst e
    rw [List.getElem?_set_self (List.getElem?_eq_some_iff.mp h).1, h]
  · rw [List.getElem?_set_ne e]
end DV
namespace Fx
open PySem L2 DV
/-! ### sums -/
def sm (ss : List St) : Int := (ss.map St.m).sum
def tm (ss : List St) : Rat := (ss.map fun s => tot s s.m).sum
@[simp] theorem sm_nil : sm [] = 0 := rfl
@[simp] theorem tm_nil : tm [] = 0 := rfl
@[simp] theorem sm_cons {s : St} {ss : List St} : sm (s :: ss) = s.m + sm ss := rfl
@[simp] theorem tm_cons {s : St} {ss : List St} : tm (s :: ss) = tot s s.m + tm ss := rfl
theorem sm_app {xs ys : List St} : sm (xs ++ ys) = sm xs + sm ys := by
  induction xs with
  | nil => simp
  | cons x xs ih => simp only [List.cons_append, sm_cons, ih]; omega
theorem tm_app {xs ys : List St} : tm (xs ++ ys) = tm xs + tm ys := by
  induction xs with
  | nil => simp; grind
  | cons x xs ih => simp only [List.cons_append, tm_cons, ih]; grind
section
variable {B : Nat} {ss : List St} {r p x : Rat} {S : Sto}
theorem sm_nonneg : ∀ {ss : List St}, (∀ s ∈ ss, Sok B s) → 0 ≤ sm ss
  | [], _ => by simp
  | s :: ss, h => by
    have := (h s (by simp)).m1
    have := sm_nonneg (ss := ss) fun s hs => h s (by simp [hs])
    rw [sm_cons]; omega
theorem sm_take_le {i : Nat} (h : ∀ s ∈ ss, Sok B s) : 0 ≤ sm (ss.take i) ∧ sm (ss.take i) ≤ sm ss := by
  have a := sm_nonneg (ss := ss.take i) fun s hs => h s (List.mem_of_mem_take hs)
  have b := sm_nonneg (ss := ss.drop i) fun s hs => h s (List.mem_of_mem_drop hs)
  have c : sm ss = sm (ss.take i) + sm (ss.drop i) := by rw [← sm_app, List.take_append_drop]
  omega
theorem take_at {α : Type} {l : List α} {i : Nat} (h : i < l.length) : l.take (i + 1) = l.take i ++ [l[i]] := by rw [List.take_succ]; simp [h]
theorem sm_take_succ {i : Nat} (h : i < ss.length) : sm (ss.take (i + 1)) = sm (ss.take i) + ss[i].m := by
  rw [take_at h, sm_app]; simp
theorem tm_take_succ {i : Nat} (h : i < ss.length) : tm (ss.take (i + 1)) = tm (ss.take i) + tot ss[i] ss[i].m := by
  rw [take_at h, tm_app, tm_cons, tm_nil]; grind
theorem Bq_tmW : ∀ {ss : List St}, (∀ s ∈ ss, Sok B s) → Bq (ss.length * (2 * B + 52) + 1) (tm ss)
  | [], _ => by
    have : Bq 1 (0 : Rat) := ⟨by decide, by decide⟩
    simpa using this
  | s :: ss, h => by
    have ok := h s (by simp)
    have t := Bq_tot ok (k := s.m) (by have := ok.m1; have := ok.m2; omega)
    have ih := Bq_tmW (ss := ss) fun s hs => h s (by simp [hs])
    refine (Bq_add t ih).mono ?_
    rw [List.length_cons, Nat.succ_mul ss.length]
    generalize ss.length * (2 * B + 52) = W
    omega
theorem Bq_tm (h : ∀ s ∈ ss, Sok B s) (h24 : ss.length ≤ 24) : Bq (48 * B + 1249) (tm ss) := (Bq_tmW h).mono (by
  have := Nat.mul_le_mul_right (2 * B + 52) h24
  omega)
theorem Tok.take (h : Tok B ss r) (i : Nat) : (∀ s ∈ ss.take i, Sok B s) ∧ (ss.take i).length ≤ 24 := ⟨fun s hs => h.all s (List.mem_of_mem_take hs), by have := h.n24; simp; omega⟩
theorem Tok.sm0 (h : Tok B ss r) (i : Nat) : 0 ≤ sm (ss.take i) ∧ sm (ss.take i) ≤ 200000 := by
  have a := sm_take_le (i := i) h.all
  have b : sm ss ≤ 200000 := h.sum
  omega
theorem mo_cons {s : St} : mo (s :: ss) r p = if p < (s.m : Rat) then mw s p else tot s s.m + mo ss r (p - (s.m : Rat)) := rfl
/-- the moment, from a stretch on -/
theorem mo_split : ∀ {ss : List St} {i : Nat} {p : Rat}, (∀ s ∈ ss, Sok B s) → (sm (ss.take i) : Rat) ≤ p → mo ss r p = tm (ss.take i) + mo (ss.drop i) r (p - (sm (ss.take i) : Rat))
  | ss, 0, p, h, hp => by
    have e : p - ((sm (ss.take 0) : Int) : Rat) = p := by simp; grind
    rw [e]
    simp
    grind
  | [], i + 1, p, h, hp => by
    have e : p - ((sm (([] : List St).take (i + 1)) : Int) : Rat) = p := by simp; grind
    rw [e]
    simp
    grind
  | s :: ss, i + 1, p, h, hp => by
    have h' : ∀ s ∈ ss, Sok B s := fun s hs => h s (by simp [hs])
    have n0 := (sm_take_le (ss := ss) (i := i) h').1
    have n1 : (0 : Rat) ≤ (sm (ss.take i) : Rat) := by
      have : ((0 : Int) : Rat) ≤ (sm (ss.take i) : Rat) := by rw [cle]; exact n0
      exact this
    simp only [List.take_succ_cons, List.drop_succ_cons, sm_cons, tm_cons, Rat.intCast_add] at hp ⊢
    have nl : ¬ p < (s.m : Rat) := by grind
    have ih := mo_split (ss := ss) (i := i) (p := p - (s.m : Rat)) h' (by grind)
    have e : p - (s.m : Rat) - (sm (ss.take i) : Rat) = p - ((s.m : Rat) + (sm (ss.take i) : Rat)) := by grind
    rw [e] at ih
    conv => lhs; unfold mo
    rw [if_neg nl, ih]
    grind
/-- where a place lies -/
theorem where_p : ∀ {ss : List St} {p : Rat}, 0 ≤ p → (∃ (i : Nat) (h : i < ss.length), (sm (ss.take i) : Rat) ≤ p ∧ p < (sm (ss.take (i + 1)) : Rat)) ∨ (sm ss : Rat) ≤ p
  | [], p, h0 => .inr (by simpa using h0)
  | s :: ss, p, h0 => by
    by_cases hp : p < (s.m : Rat)
    · refine .inl ⟨0, by simp, by simpa using h0, ?_⟩
      have : ((s.m + 0 : Int) : Rat) = (s.m : Rat) := by simp
      simpa [this] using hp
    · rcases where_p (ss := ss) (p := p - (s.m : Rat)) (by grind) with ⟨i, hi, a, b⟩ | a
      · refine .inl ⟨i + 1, by simpa using hi, ?_, ?_⟩
        · simp only [List.take_succ_cons, sm_cons, Rat.intCast_add]; grind
        · simp only [List.take_succ_cons (i := i + 1), sm_cons, Rat.intCast_add]; grind
      · refine .inr ?_
        simp only [sm_cons, Rat.intCast_add]; grind
theorem mo_in {i : Nat} (hi : i < ss.length) (h : ∀ s ∈ ss, Sok B s) (a : (sm (ss.take i) : Rat) ≤ p) (b : p < (sm (ss.take (i + 1)) : Rat)) : mo ss r p = tm (ss.take i) + mw ss[i] (p - (sm (ss.take i) : Rat)) := by
  have e := mo_split (r := r) h a
  rw [sm_take_succ hi, Rat.intCast_add] at b
  rw [List.drop_eq_getElem_cons hi, mo_cons, if_pos (by grind)] at e
  exact e
theorem mo_out (h : ∀ s ∈ ss, Sok B s) (a : (sm ss : Rat) ≤ p) : mo ss r p = tm ss + (p - (sm ss : Rat)) * r := by
  have e := mo_split (r := r) (i := ss.length) h (by simpa using a)
  simpa [mo] using e
theorem Bq_sub_int {n : Nat} {a : Int} (hp : Bq n p) (h : 0 ≤ a ∧ a ≤ 200000) : Bq (n + 19) (p - (a : Rat)) := (Bq_sub hp (Bq_int (n := 18) (i := a) (by omega) (by decide))).mono (by omega)
theorem fl_small (h : Tok B ss r) {i : Nat} (hi : i < ss.length) (a : (sm (ss.take i) : Rat) ≤ p) (b : p < (sm (ss.take (i + 1)) : Rat)) : 0 ≤ p - (sm (ss.take i) : Rat) ∧ p - (sm (ss.take i) : Rat) < (ss[i].m : Rat) ∧ (p - (sm (ss.take i) : Rat)).floor.natAbs < 2 ^ 18 := by
  rw [sm_take_succ hi, Rat.intCast_add] at b
  have n0 : 0 ≤ p - (sm (ss.take i) : Rat) := by grind
  have n1 : p - (sm (ss.take i) : Rat) < (ss[i].m : Rat) := by grind
  have f0 := fl_nonneg n0
  have f1 := fl_lt n1
  have := (h.all _ (List.getElem_mem hi)).m2
  exact ⟨n0, n1, by omega⟩
theorem Bq_mo {n : Nat} (h : Tok B ss r) (hp : Bq n p) (h0 : 0 ≤ p) : Bq (n + 50 * B + 1400) (mo ss r p) := by
  rcases where_p (ss := ss) h0 with ⟨i, hi, a, b⟩ | a
  · rw [mo_in hi h.all a b]
    obtain ⟨t1, t2⟩ := h.take i
    have f := fl_small h hi a b
    exact (Bq_add (Bq_tm t1 t2) (Bq_mw (h.all _ (List.getElem_mem hi)) (Bq_sub_int hp (h.sm0 i)) f.2.2)).mono (by omega)
  · rw [mo_out h.all a]
    have s0 := h.sm0 ss.length
    rw [List.take_length] at s0
    exact (Bq_add (Bq_tm h.all h.n24) (Bq_mul (Bq_sub_int hp s0) h.br)).mono (by omega)
/-! ### clocks -/
/-- what a clock keeps of a stretch -/
def pt (a : Int) (b : Rat) (s : St) : D := .tup [.int a, .int (a + s.m), fq b, fq (b + tot s s.m), ln s]
def pts (ss : List St) : List D := (List.range ss.length).map fun i => pt (sm (ss.take i)) (tm (ss.take i)) (ss[i]?.getD ⟨0, 0, 0⟩)
theorem pts_take (i : Nat) (h : i < ss.length) : pts (ss.take (i + 1)) = pts (ss.take i) ++ [pt (sm (ss.take i)) (tm (ss.take i)) ss[i]] := by
  unfold pts
  have l1 : (ss.take (i + 1)).length = i + 1 := by simp; omega
  have l2 : (ss.take i).length = i := by simp; omega
  rw [l1, l2, List.range_succ, List.map_append, List.map_singleton]
  congr 1
  · refine List.map_congr_left fun j hj => ?_
    have hj := List.mem_range.mp hj
    rw [List.take_take, List.take_take, Nat.min_eq_left (by omega), Nat.min_eq_left (by omega), List.getElem?_take_of_lt (by omega), List.getElem?_take_of_lt (by omega)]
  · rw [List.take_take, Nat.min_eq_left (by omega), List.getElem?_take_of_lt (by omega)]
    simp [h]
def ckeys : List Str := ["rest", "parts", "step", "moment", "known"]
def cins (ss : List St) (r : Rat) (n : Nat) : O := .ins "Clock" ckeys [fq r, .ob (n + 1), .int (sm ss), fq (tm ss), .ob (n + 2)]
def kq (p : Rat) : List Key := [.inl p.num, .inl (p.den : Int)]
theorem kq_inj {p q : Rat} : kq p = kq q ↔ p = q := by
  constructor
  · intro h
    simp only [kq, List.cons.injEq, and_true] at h
    have a : p.num = q.num := Sum.inl.inj h.1
    have b : (p.den : Int) = (q.den : Int) := Sum.inl.inj h.2
    exact Rat.ext a (by exact_mod_cast b)
  · rintro rfl; rfl
theorem keyT_fq (p : Rat) : keyT (fq p) = some (kq p) := rfl
/-- what a clock has found already is right -/
structure Kn (ss : List St) (r : Rat) (kn : List (List Key × D)) : Prop where
  val : ∀ p : Rat, 0 ≤ p → ∀ v, valK kn (kq p) = some v → v = fq (mo ss r p)
  pl : ∀ kv ∈ kn, ∃ x : Rat, kv.2 = fq x
theorem Kn.nil : Kn ss r [] := ⟨fun p _ v h => by simp [valK] at h, fun kv h => by simp at h⟩
theorem Kn.put {kn : List (List Key × D)} (h : Kn ss r kn) : Kn ss r (putKD kn (kq p) (fq (mo ss r p))) := ⟨fun q hq v e => by
  rw [valK_put] at e
  by_cases z : kq q = kq p
  · rw [if_pos z] at e
    rw [kq_inj.mp z]
    exact (Option.some.inj e).symm
  · rw [if_neg z] at e
    exact h.val q hq v e, fun kv hk => (putKD_mem hk).elim (fun e => ⟨_, e⟩) (h.pl kv)⟩
theorem zip_self {α β : Type} : ∀ {l : List (α × β)}, (l.map (·.1)).zip (l.map (·.2)) = l
  | [] => rfl
  | x :: l => by rw [List.map_cons, List.map_cons, List.zip_cons_cons, zip_self]
theorem Kn.fz {kn : List (List Key × D)} {n : Nat} (h : Kn ss r kn) : Fz n (.dtt kn) := fun S => by
  have : Pls 40 (kn.map (·.2)) := pls_iff.mpr fun d hd => by
    obtain ⟨kv, hk, rfl⟩ := List.mem_map.mp hd
    obtain ⟨x, hx⟩ := h.pl kv hk
    rw [hx]; exact pl_fq
  simp only [frzO, frzs_pl 40 _ this, Option.map_some, zip_self]
/-- a clock stands at n -/
structure Clk (S : Sto) (n : Nat) (ss : List St) (r : Rat) (kn : List (List Key × D)) : Prop where
  ins : S[n]? = some (cins ss r n)
  parts : S[n + 1]? = some (.lst (pts ss))
  known : S[n + 2]? = some (.dtt kn)
  ok : Kn ss r kn
end
end Fx
set_option Elab.async false
set_option linter.all false
set_option maxRecDepth 100000
set_option exponentiation.threshold 20000
/-! what clocks answer -/
namespace Fx
open PySem L2 DV
section
variable {B : Nat} {ss : List St} {r p x : Rat} {S : Sto} {n m : Nat} {kn : List (List Key × D)}
theorem ins_of (h : S[n]? = some (cins ss r n)) : insOf "Clock" (.ob n) S = some (ckeys, [fq r, .ob (n + 1), .int (sm ss), fq (tm ss), .ob (n + 2)]) := by
  simp [insOf, h, cins]
theorem lkc (a b c d e : D) : lookK "rest" ckeys [a, b, c, d, e] = some a ∧ lookK "parts" ckeys [a, b, c, d, e] = some b ∧ lookK "step" ckeys [a, b, c, d, e] = some c ∧ lookK "moment" ckeys [a, b, c, d, e] = some d ∧ lookK "known" ckeys [a, b, c, d, e] = some e ∧ lookK "_found_at" ckeys [a, b, c, d, e] = none ∧ lookK "_place_of" ckeys [a, b, c, d, e] = none ∧ lookK "moment_at" ckeys [a, b, c, d, e] = none ∧ lookK "place_at" ckeys [a, b, c, d, e] = none := ⟨rfl, rfl, rfl, rfl, rfl, rfl, rfl, rfl, rfl⟩
theorem get_rest (h : S[n]? = some (cins ss r n)) (ρ : Lc) (a : EF) (ha : a ρ S = .ok (.ob n) S) : eFld "Clock" "rest" a ρ S = .ok (fq r) S := by
  simp only [eFld_eq, ha, bind_ok, ins_of h, (lkc _ _ _ _ _).1]
theorem get_parts (h : S[n]? = some (cins ss r n)) (ρ : Lc) (a : EF) (ha : a ρ S = .ok (.ob n) S) : eFld "Clock" "parts" a ρ S = .ok (.ob (n + 1)) S := by
  simp only [eFld_eq, ha, bind_ok, ins_of h, (lkc _ _ _ _ _).2.1]
theorem get_step (h : S[n]? = some (cins ss r n)) (ρ : Lc) (a : EF) (ha : a ρ S = .ok (.ob n) S) : eFld "Clock" "step" a ρ S = .ok (.int (sm ss)) S := by
  simp only [eFld_eq, ha, bind_ok, ins_of h, (lkc _ _ _ _ _).2.2.1]
theorem get_moment (h : S[n]? = some (cins ss r n)) (ρ : Lc) (a : EF) (ha : a ρ S = .ok (.ob n) S) : eFld "Clock" "moment" a ρ S = .ok (fq (tm ss)) S := by
  simp only [eFld_eq, ha, bind_ok, ins_of h, (lkc _ _ _ _ _).2.2.2.1]
theorem get_known (h : S[n]? = some (cins ss r n)) (ρ : Lc) (a : EF) (ha : a ρ S = .ok (.ob n) S) : eFld "Clock" "known" a ρ S = .ok (.ob (n + 2)) S := by
  simp only [eFld_eq, ha, bind_ok, ins_of h, (lkc _ _ _ _ _).2.2.2.2.1]
theorem pts_get {i : Nat} (h : i < ss.length) : (pts ss)[i]? = some (pt (sm (ss.take i)) (tm (ss.take i)) ss[i]) := by
  simp [pts, h]
theorem pts_len : (pts ss).length = ss.length := by simp [pts]
/-- the moment of a place, as the clock finds it -/
theorem found_at_ok (h : Tok B ss r) (hc : S[n]? = some (cins ss r n)) (hp' : S[n + 1]? = some (.lst (pts ss))) (hp : Bq m p) (hm : m + 50 * B + 1400 ≤ 13000) (h0 : 0 ≤ p) : F_Clock_found_at [.ob n, fq p] S = .ok (fq (mo ss r p)) S := by
  have f1 := fun S => floor_of_ok hp (by omega) S
  refine eq_of_wp (wp_run ?_)
  show Ws (b_Clock_found_at [some (.ob n), some (fq p), none, none, none, none, none, none] S) _
  unfold b_Clock_found_at
  refine ws_step (ρ' := [some (.ob n), some (fq p), some (.int p.floor), none, none, none, none, none]) (S' := S) (by simp [c_Clock_found_at_0, f1]) ?_
  refine ws_seq ?_
  refine ws_forO (qs := pts ss) (g := id) (k := n + 1) (S1 := S) ?_ (fun i ρ S' => S' = S ∧ (sm (ss.take i) : Rat) ≤ p ∧ ∃ y3 y4 y5 y6 y7, ρ = [some (.ob n), some (fq p), some (.int p.floor), y3, y4, y5, y6, y7]) ⟨rfl, by simpa using h0, _, _, _, _, _, rfl⟩ ?_ ?_ ?_
  · have g0 := fun ρ => get_parts hc (some (.ob n) :: ρ) (eVar 0) rfl
    simp only [iSeq_eq, g0, bind_ok, hp']
  · rintro i ρ S' ⟨rfl, _⟩
    rw [List.map_id]; exact hp'
  · rintro i hi ρ S' ⟨rfl, hle, y3, y4, y5, y6, y7, rfl⟩
    have hi' : i < ss.length := by simpa [pts_len] using hi
    have ok := h.all _ (List.getElem_mem hi')
    have e : (pts ss)[i] = pt (sm (ss.take i)) (tm (ss.take i)) ss[i] := by
      have := pts_get hi'
      rw [List.getElem?_eq_getElem (by rw [pts_len]; exact hi')] at this
      exact Option.some.inj this
    refine ⟨[some (.ob n), some (fq p), some (.int p.floor), some (.int (sm (ss.take i))), some (.int (sm (ss.take i) + ss[i].m)), some (fq (tm (ss.take i))), some (fq (tm (ss.take i) + tot ss[i] ss[i].m)), some (ln ss[i])], ?_, ?_⟩
    · rw [e]; simp [pt]
    · by_cases hlt : p.floor < sm (ss.take i) + ss[i].m
      · have hlt' : p < (sm (ss.take (i + 1)) : Rat) := by
          rw [sm_take_succ hi']
          have a := Rat.lt_floor_add_one p
          have b : ((p.floor + 1 : Int) : Rat) ≤ ((sm (ss.take i) + ss[i].m : Int) : Rat) := by rw [cle]; omega
          grind
        obtain ⟨t1, t2⟩ := h.take i
        have f := fl_small h hi' hle hlt'
        have bs := Bq_sub_int hp (h.sm0 i)
        have e1 := fun S => minus_ok hp (Bq_int (n := 18) (i := sm (ss.take i)) (by have := h.sm0 i; omega) (by decide)) (by omega) S
        have e2 := fun S => mw_ok ok bs (by omega) f.2.2 S
        have e3 := fun S => plus_ok (Bq_tm t1 t2) (Bq_mw ok bs f.2.2) (by omega) S
        rw [← mo_in (r := r) hi' h.all hle hlt'] at e3
        have : c_Clock_found_at_1_0 [some (.ob n), some (fq p), some (.int p.floor), some (.int (sm (ss.take i))), some (.int (sm (ss.take i) + ss[i].m)), some (fq (tm (ss.take i))), some (fq (tm (ss.take i) + tot ss[i] ss[i].m)), some (ln ss[i])] S' = .rt (fq (mo ss r p)) S' := by
          simp [c_Clock_found_at_1_0, hlt, fq_int, e1, e2, e3]
        rw [this]
        exact end_pure0 (E := nE) pl_fq ⟨rfl, rfl⟩
      · have hge : (sm (ss.take (i + 1)) : Rat) ≤ p := by
          rw [sm_take_succ hi', ← le_fl]; omega
        have : c_Clock_found_at_1_0 [some (.ob n), some (fq p), some (.int p.floor), some (.int (sm (ss.take i))), some (.int (sm (ss.take i) + ss[i].m)), some (fq (tm (ss.take i))), some (fq (tm (ss.take i) + tot ss[i] ss[i].m)), some (ln ss[i])] S' = .nx [some (.ob n), some (fq p), some (.int p.floor), some (.int (sm (ss.take i))), some (.int (sm (ss.take i) + ss[i].m)), some (fq (tm (ss.take i))), some (fq (tm (ss.take i) + tot ss[i] ss[i].m)), some (ln ss[i])] S' := by
          simp [c_Clock_found_at_1_0, hlt]
        rw [this]
        exact ⟨rfl, hge, _, _, _, _, _, rfl⟩
  · rintro ρ S' ⟨rfl, hle, y3, y4, y5, y6, y7, rfl⟩
    rw [pts_len, List.take_length] at hle
    dsimp only
    have s0 := h.sm0 ss.length
    rw [List.take_length] at s0
    have bs := Bq_sub_int hp s0
    have e1 := fun S => minus_ok hp (Bq_int (n := 18) (i := sm ss) (by omega) (by decide)) (by omega) S
    have e2 := fun S => times_ok bs h.br (by omega) S
    have e3 := fun S => plus_ok (Bq_tm h.all h.n24) (Bq_mul bs h.br) (by omega) S
    rw [← mo_out (r := r) h.all hle] at e3
    have g1 := fun ρ => get_step hc (some (.ob n) :: ρ) (eVar 0) rfl
    have g2 := fun ρ => get_moment hc (some (.ob n) :: ρ) (eVar 0) rfl
    have g3 := fun ρ => get_rest hc (some (.ob n) :: ρ) (eVar 0) rfl
    have : c_Clock_found_at_2 [some (.ob n), some (fq p), some (.int p.floor), y3, y4, y5, y6, y7] S' = .rt (fq (mo ss r p)) S' := by
      simp [-eFld_eq, c_Clock_found_at_2, g1, g2, g3, fq_int, e1, e2, e3]
    rw [this]
    exact end_pure0 pl_fq ⟨rfl, rfl⟩
theorem memX_known (hk : S[n + 2]? = some (.dtt kn)) : memX (fq p) (.ob (n + 2)) S = some (valK kn (kq p)).isSome := by
  have : getX (.ob (n + 2)) (fq p) S = some (valK kn (kq p)) := by
    simp [getX, dicOf, dttOf, hk, keyT_fq]
  simp [memX, this]
theorem getX_known (hk : S[n + 2]? = some (.dtt kn)) : getX (.ob (n + 2)) (fq p) S = some (valK kn (kq p)) := by
  simp [getX, dicOf, dttOf, hk, keyT_fq]
theorem putX_known {v : D} (hk : S[n + 2]? = some (.dtt kn)) (hl : kn.length < 1000000) : putX (.ob (n + 2)) (fq p) v S = some (S.set (n + 2) (.dtt (putKD kn (kq p) v))) := by
  simp [putX, hk, keyT_fq, gd_of hl]
theorem Clk.set (h : Clk S n ss r kn) {kn' : List (List Key × D)} (ok : Kn ss r kn') : Clk (S.set (n + 2) (.dtt kn')) n ss r kn' := by
  have hl := (List.getElem?_eq_some_iff.mp h.known).1
  exact ⟨by rw [List.getElem?_set_ne (by omega)]; exact h.ins, by rw [List.getElem?_set_ne (by omega)]; exact h.parts, by rw [List.getElem?_set_self hl], ok⟩
/-- what is asked of a clock and a place -/
theorem moment_at_ok (h : Tok B ss r) (c : Clk S n ss r kn) (hl : kn.length < 1000000) (hp : Bq m p) (hm : m + 50 * B + 1400 ≤ 13000) (h0 : 0 ≤ p) :
    ∃ kn', Kn ss r kn' ∧ kn'.length ≤ kn.length + 1 ∧ F_Clock_moment_at [.ob n, fq p] S = .ok (fq (mo ss r p)) (S.set (n + 2) (.dtt kn')) := by
  have g1 := fun ρ => get_known c.ins (some (.ob n) :: ρ) (eVar 0) rfl
  have f := found_at_ok h c.ins c.parts hp hm h0
  cases e : valK kn (kq p) with
  | some v =>
    have hv := c.ok.val p h0 v e
    subst hv
    refine ⟨kn, c.ok, by omega, ?_⟩
    rw [set_same c.known]
    refine eq_of_wp (wp_run ?_)
    show Ws (b_Clock_moment_at [some (.ob n), some (fq p)] S) _
    unfold b_Clock_moment_at
    refine ws_step (ρ' := [some (.ob n), some (fq p)]) (S' := S) (by
      simp [-eFld_eq, c_Clock_moment_at_0, oNotIn, oInG, memX_known c.known, g1, e]) ?_
    have : c_Clock_moment_at_1 [some (.ob n), some (fq p)] S = .rt (fq (mo ss r p)) S := by
      simp [-eFld_eq, c_Clock_moment_at_1, getX_known c.known, g1, e]
    rw [this]
    exact end_pure0 pl_fq ⟨rfl, rfl⟩
  | none =>
    refine ⟨putKD kn (kq p) (fq (mo ss r p)), c.ok.put, putKD_len, ?_⟩
    have c' := c.set (c.ok.put (p := p))
    have g2 := fun ρ => get_known c'.ins (some (.ob n) :: ρ) (eVar 0) rfl
    have lk : (lookK "_found_at" ckeys [fq r, .ob (n + 1), .int (sm ss), fq (tm ss), .ob (n + 2)]) = none := (lkc _ _ _ _ _).2.2.2.2.2.1
    have w : Wp (F_Clock_moment_at [.ob n, fq p] S) (fun d S' => d = fq (mo ss r p) ∧ S' = S.set (n + 2) (.dtt (putKD kn (kq p) (fq (mo ss r p))))) fun _ _ => False := by
      refine wp_run ?_
      show Ws (b_Clock_moment_at [some (.ob n), some (fq p)] S) _
      unfold b_Clock_moment_at
      refine ws_step (ρ' := [some (.ob n), some (fq p)]) (S' := S.set (n + 2) (.dtt (putKD kn (kq p) (fq (mo ss r p))))) (by
        simp [-eFld_eq, c_Clock_moment_at_0, oNotIn, oInG, memX_known c.known, g1, e, ins_of c.ins, lk, f, Res.noex, putX_known c.known hl]) ?_
      have e2 : valK (putKD kn (kq p) (fq (mo ss r p))) (kq p) = some (fq (mo ss r p)) := by rw [valK_put, if_pos rfl]
      have : c_Clock_moment_at_1 [some (.ob n), some (fq p)] (S.set (n + 2) (.dtt (putKD kn (kq p) (fq (mo ss r p))))) = .rt (fq (mo ss r p)) (S.set (n + 2) (.dtt (putKD kn (kq p) (fq (mo ss r p))))) := by
        simp [-eFld_eq, c_Clock_moment_at_1, getX_known c'.known, g2, e2]
      rw [this]
      exact ⟨_, [], fq (mo ss r p), by simp, kp_set c'.ok.fz, frz_pl 40 _ pl_fq, rfl, rfl⟩
    obtain ⟨a, T, e1, rfl, rfl⟩ := w.get
    exact e1
/-- the place at a moment, as the clock finds it -/
theorem clock_place_ok (h : Tok B ss r) (hc : S[n]? = some (cins ss r n)) (hp' : S[n + 1]? = some (.lst (pts ss))) (hx : Bq m x) (hm : m + 52 * B + 1500 ≤ 13000) (h0 : 0 ≤ x) :
    ∃ y : Rat, F_Clock_place_of [.ob n, fq x] S = .ok (fq y) S ∧ 0 ≤ y ∧ mo ss r y = x ∧ Bq (m + 52 * B + 1400) y := by
  have bt := fun i => Bq_tm (h.take i).1 (h.take i).2
  have w : Wp (F_Clock_place_of [.ob n, fq x] S) (fun d S' => S' = S ∧ ∃ y : Rat, d = fq y ∧ 0 ≤ y ∧ mo ss r y = x ∧ Bq (m + 52 * B + 1400) y) fun _ _ => False := by
    refine wp_run ?_
    show Ws (b_Clock_place_of [some (.ob n), some (fq x), none, none, none, none, none] S) _
    unfold b_Clock_place_of
    refine ws_seq ?_
    refine ws_forO (qs := pts ss) (g := id) (k := n + 1) (S1 := S) ?_ (fun i ρ S' => S' = S ∧ tm (ss.take i) ≤ x ∧ ∃ y2 y3 y4 y5 y6, ρ = [some (.ob n), some (fq x), y2, y3, y4, y5, y6]) ⟨rfl, by simpa using h0, _, _, _, _, _, rfl⟩ ?_ ?_ ?_
    · have g0 := fun ρ => get_parts hc (some (.ob n) :: ρ) (eVar 0) rfl
      simp only [iSeq_eq, g0, bind_ok, hp']
    · rintro i ρ S' ⟨rfl, _⟩
      rw [List.map_id]; exact hp'
    · rintro i hi ρ S' ⟨rfl, hle, y2, y3, y4, y5, y6, rfl⟩
      have hi' : i < ss.length := by simpa [pts_len] using hi
      have ok := h.all _ (List.getElem_mem hi')
      have e : (pts ss)[i] = pt (sm (ss.take i)) (tm (ss.take i)) ss[i] := by
        have := pts_get hi'
        rw [List.getElem?_eq_getElem (by rw [pts_len]; exact hi')] at this
        exact Option.some.inj this
      refine ⟨[some (.ob n), some (fq x), some (.int (sm (ss.take i))), some (.int (sm (ss.take i) + ss[i].m)), some (fq (tm (ss.take i))), some (fq (tm (ss.take i) + tot ss[i] ss[i].m)), some (ln ss[i])], ?_, ?_⟩
      · rw [e]; simp [pt]
      · rw [← tm_take_succ hi']
        have l1 := fun S => is_less_ok hx (bt (i + 1)) (by omega) S
        by_cases hlt : x < tm (ss.take (i + 1))
        · simp only [hlt, decide_true] at l1
          have s0 := h.sm0 i
          have bx : Bq (m + 48 * B + 1250) (x - tm (ss.take i)) := (Bq_sub hx (bt i)).mono (by omega)
          obtain ⟨y, e3, y0, ym, ymw, by'⟩ := place_within_ok ok bx (by omega) (by grind) (by rw [tm_take_succ hi'] at hlt; grind) S'
          have e1 := fun S => minus_ok hx (bt i) (by omega) S
          have ba : Bq 18 ((sm (ss.take i) : Int) : Rat) := Bq_int (by omega) (by decide)
          have e4 := fun S => plus_ok ba by' (by omega) S
          have dm : sm (ss.take i) + ss[i].m - sm (ss.take i) = ss[i].m := by omega
          have : c_Clock_place_of_0_0 [some (.ob n), some (fq x), some (.int (sm (ss.take i))), some (.int (sm (ss.take i) + ss[i].m)), some (fq (tm (ss.take i))), some (fq (tm (ss.take (i + 1)))), some (ln ss[i])] S' = .rt (fq ((sm (ss.take i) : Rat) + y)) S' := by
            simp [c_Clock_place_of_0_0, l1, e1, fq_int, e3, e4, dm]
          rw [this]
          have q0 : (0 : Rat) ≤ (sm (ss.take i) : Rat) := by
            have : ((0 : Int) : Rat) ≤ (sm (ss.take i) : Rat) := by rw [cle]; exact s0.1
            exact this
          have q1 : (sm (ss.take i) : Rat) + y - (sm (ss.take i) : Rat) = y := by grind
          refine end_pure0 (E := nE) pl_fq ⟨rfl, _, rfl, by grind, ?_, (Bq_add ba by').mono (by omega)⟩
          rw [mo_in hi' h.all (by grind) (by rw [sm_take_succ hi', Rat.intCast_add]; grind), q1, ymw]
          grind
        · simp only [hlt, decide_false] at l1
          have : c_Clock_place_of_0_0 [some (.ob n), some (fq x), some (.int (sm (ss.take i))), some (.int (sm (ss.take i) + ss[i].m)), some (fq (tm (ss.take i))), some (fq (tm (ss.take (i + 1)))), some (ln ss[i])] S' = .nx [some (.ob n), some (fq x), some (.int (sm (ss.take i))), some (.int (sm (ss.take i) + ss[i].m)), some (fq (tm (ss.take i))), some (fq (tm (ss.take (i + 1)))), some (ln ss[i])] S' := by
            simp [c_Clock_place_of_0_0, l1]
          rw [this]
          exact ⟨rfl, Rat.not_lt.mp hlt, _, _, _, _, _, rfl⟩
    · rintro ρ S' ⟨rfl, hle, y2, y3, y4, y5, y6, rfl⟩
      rw [pts_len, List.take_length] at hle
      dsimp only
      have s0 := h.sm0 ss.length
      have bt' := bt ss.length
      rw [List.take_length] at s0 bt'
      have r0 : r ≠ 0 := by have := h.r0; grind
      have bx : Bq (m + 48 * B + 1250) (x - tm ss) := (Bq_sub hx bt').mono (by omega)
      have e1 := fun S => minus_ok hx bt' (by omega) S
      have bd := Bq_div bx h.br r0
      have e2 := fun S => over_ok bx h.br (by omega) r0 S
      have ba : Bq 18 ((sm ss : Int) : Rat) := Bq_int (by omega) (by decide)
      have e3 := fun S => plus_ok ba bd (by omega) S
      have g1 := fun ρ => get_step hc (some (.ob n) :: ρ) (eVar 0) rfl
      have g2 := fun ρ => get_moment hc (some (.ob n) :: ρ) (eVar 0) rfl
      have g3 := fun ρ => get_rest hc (some (.ob n) :: ρ) (eVar 0) rfl
      have : c_Clock_place_of_1 [some (.ob n), some (fq x), y2, y3, y4, y5, y6] S' = .rt (fq ((sm ss : Rat) + (x - tm ss) / r)) S' := by
        simp [-eFld_eq, c_Clock_place_of_1, g1, g2, g3, fq_int, e1, e2, e3]
      rw [this]
      have hr := h.r0
      have d : (x - tm ss) / r * r = x - tm ss := by grind
      have dn : 0 ≤ (x - tm ss) / r := by
        refine Rat.not_lt.mp fun hn => ?_
        have := Rat.mul_pos (a := -((x - tm ss) / r)) (by grind) hr
        grind
      have q0 : (0 : Rat) ≤ (sm ss : Rat) := by
        have : ((0 : Int) : Rat) ≤ (sm ss : Rat) := by rw [cle]; exact s0.1
        exact this
      refine end_pure0 pl_fq ⟨rfl, _, rfl, by grind, ?_, (Bq_add ba bd).mono (by omega)⟩
      rw [mo_out h.all (by grind)]
      have q1 : (sm ss : Rat) + (x - tm ss) / r - (sm ss : Rat) = (x - tm ss) / r := by grind
      rw [q1, d]
      grind
  obtain ⟨d, T, e, rfl, y, rfl, y0, ym, yb⟩ := w.get
  exact ⟨y, e, y0, ym, yb⟩
theorem place_at_ok (h : Tok B ss r) (c : Clk S n ss r kn) (hl : kn.length < 1000000) (hx : Bq m x) (hm : m + 52 * B + 1500 ≤ 13000) (h0 : 0 ≤ x) :
    ∃ y : Rat, ∃ kn', Kn ss r kn' ∧ kn'.length ≤ kn.length + 1 ∧ F_Clock_place_at [.ob n, fq x] S = .ok (fq y) (S.set (n + 2) (.dtt kn')) ∧ 0 ≤ y ∧ mo ss r y = x ∧ Bq (m + 52 * B + 1400) y := by
  obtain ⟨y, e, y0, ym, yb⟩ := clock_place_ok h c.ins c.parts hx hm h0
  subst ym
  refine ⟨y, putKD kn (kq y) (fq (mo ss r y)), c.ok.put, putKD_len, ?_, y0, rfl, yb⟩
  have c' := c.set (c.ok.put (p := y))
  have g1 := fun ρ => get_known c.ins (some (.ob n) :: ρ) (eVar 0) rfl
  have lk : (lookK "_place_of" ckeys [fq r, .ob (n + 1), .int (sm ss), fq (tm ss), .ob (n + 2)]) = none := (lkc _ _ _ _ _).2.2.2.2.2.2.1
  have w : Wp (F_Clock_place_at [.ob n, fq (mo ss r y)] S) (fun d S' => d = fq y ∧ S' = S.set (n + 2) (.dtt (putKD kn (kq y) (fq (mo ss r y))))) fun _ _ => False := by
    refine wp_run ?_
    show Ws (b_Clock_place_at [some (.ob n), some (fq (mo ss r y)), none] S) _
    unfold b_Clock_place_at
    refine ws_step (ρ' := [some (.ob n), some (fq (mo ss r y)), some (fq y)]) (S' := S) (by
      simp [-eFld_eq, c_Clock_place_at_0, ins_of c.ins, lk, e, Res.noex]) ?_
    refine ws_step (ρ' := [some (.ob n), some (fq (mo ss r y)), some (fq y)]) (S' := S.set (n + 2) (.dtt (putKD kn (kq y) (fq (mo ss r y))))) (by
      simp [-eFld_eq, c_Clock_place_at_1, g1, putX_known c.known hl]) ?_
    simp only [c_Clock_place_at_2, sRet_eq, eVar_s, eVar_0, sb_ok]
    exact ⟨_, [], fq y, by simp, kp_set c'.ok.fz, frz_pl 40 _ pl_fq, rfl, rfl⟩
  obtain ⟨a, T, e1, rfl, rfl⟩ := w.get
  exact e1
end
end Fx
set_option Elab.async false
set_option linter.all false
set_option maxRecDepth 100000
set_option exponentiation.threshold 20000
/-! a clock is made; moment_of, place_of, length_of -/
namespace Fx
open PySem L2 DV
section
variable {B : Nat} {ss : List St} {r p x : Rat} {S : Sto} {n m : Nat} {k : Int}
theorem stoA {S E : Sto} {a b : O} : (S ++ a :: b :: E)[S.length + 1]? = some b := by rw [sto_k]; rfl
theorem stoB {S E : Sto} {a b c : O} : (S ++ a :: b :: c :: E)[S.length + 2]? = some c := by rw [sto_k]; rfl
theorem setA {S E : Sto} {a b x : O} : (S ++ a :: b :: E).set (S.length + 1) x = S ++ a :: x :: E := by rw [sto_setk]; rfl
theorem setB {S E : Sto} {a b c x : O} : (S ++ a :: b :: c :: E).set (S.length + 2) x = S ++ a :: b :: x :: E := by rw [sto_setk]; rfl
theorem putI_at {c f : Str} {v : D} {ks : List Str} {vs : List D} {E : Sto} (h : ks.length < 900) : putI c f (.ob S.length) v (S ++ .ins c ks vs :: E) = some (S ++ .ins c (putK f ks) (putW f v ks vs) :: E) := by
  simp [putI, h]
theorem insOf_at {c : Str} {ks : List Str} {vs : List D} {E : Sto} : insOf c (.ob S.length) (S ++ .ins c ks vs :: E) = some (ks, vs) := by
  simp [insOf]
theorem pk1 : putK "rest" [] = (["rest"] : List Str) := rfl
theorem pk2 : putK "parts" ["rest"] = (["rest", "parts"] : List Str) := rfl
theorem pk3 : putK "step" ["rest", "parts"] = (["rest", "parts", "step"] : List Str) := rfl
theorem pk4 : putK "moment" ["rest", "parts", "step"] = (["rest", "parts", "step", "moment"] : List Str) := rfl
theorem pk5 : putK "known" ["rest", "parts", "step", "moment"] = ckeys := rfl
theorem pw1 (v : D) : putW "rest" v [] [] = [v] := rfl
theorem pw2 (v a : D) : putW "parts" v ["rest"] [a] = [a, v] := rfl
theorem pw3 (v a b : D) : putW "step" v ["rest", "parts"] [a, b] = [a, b, v] := rfl
theorem pw4 (v a b c : D) : putW "moment" v ["rest", "parts", "step"] [a, b, c] = [a, b, c, v] := rfl
theorem pw5 (v a b c d : D) : putW "known" v ["rest", "parts", "step", "moment"] [a, b, c, d] = [a, b, c, d, v] := rfl
theorem pk6 : putK "step" ckeys = ckeys := rfl
theorem pk7 : putK "moment" ckeys = ckeys := rfl
theorem pw6 (v a b c d e : D) : putW "step" v ckeys [a, b, c, d, e] = [a, b, v, d, e] := rfl
theorem pw7 (v a b c d e : D) : putW "moment" v ckeys [a, b, c, d, e] = [a, b, c, v, e] := rfl
/-- a clock under way: of the first so many stretches -/
abbrev cst (S : Sto) (ss : List St) (r : Rat) : Sto := S ++ [cins ss r S.length, .lst (pts ss), .dtt []]
theorem cst_ins {S : Sto} : (cst S ss r)[S.length]? = some (cins ss r S.length) := by simp [cst]
abbrev ρi (S : Sto) (ss : List St) (r : Rat) (y3 y4 y5 y6 : Option D) : Lc := [some (.ob S.length), some (td ss r), some (.tup (ss.map sd)), y3, y4, y5, y6]
theorem init_ok (h : Tok B ss r) (hB : 50 * B + 1400 ≤ 13000) (S : Sto) : F_Clock_init [.ob S.length, td ss r] (S ++ [.ins "Clock" [] []]) = .ok .non (cst S ss r) := by
  refine eq_of_wp (wp_runK ?_)
  show Ws (b_Clock_init [some (.ob S.length), some (td ss r), none, none, none, none, none] _) _
  unfold b_Clock_init
  refine ws_step (ρ' := ρi S ss r none none none none) (S' := S ++ [.ins "Clock" ["rest"] [fq r]]) (by
    simp only [c_Clock_init_0, sAsgNF, eVar_s, eVar_0, sb_ok, td, List.set, putI_at (show ([] : List Str).length < 900 by decide), pk1, pw1]; rfl) ?_
  refine ws_step (ρ' := ρi S ss r none none none none) (S' := S ++ [.ins "Clock" ["rest", "parts"] [fq r, .ob (S.length + 1)], .lst []]) (by
    simp only [c_Clock_init_1, sFld_eq, eLstS_eq, aNil_eq, bind_ok, List.length_nil, show szOk 0 = true from gd_of (by decide), if_true, sb_ok, List.length_append, List.length_cons, eVar_0, List.append_assoc, List.cons_append, List.nil_append, Nat.zero_add,
      putI_at (show (["rest"] : List Str).length < 900 by decide), pk2, pw2]) ?_
  refine ws_step (ρ' := ρi S ss r none none none none) (S' := S ++ [.ins "Clock" ["rest", "parts", "step"] [fq r, .ob (S.length + 1), .int 0], .lst []]) (by
    simp only [c_Clock_init_2, sFld_eq, eC_eq, sb_ok, eVar_0, putI_at (show (["rest", "parts"] : List Str).length < 900 by decide), pk3, pw3]) ?_
  refine ws_step (ρ' := ρi S ss r none none none none) (S' := S ++ [.ins "Clock" ["rest", "parts", "step", "moment"] [fq r, .ob (S.length + 1), .int 0, .tup [.int 0, .int 1]], .lst []]) (by
    simp only [c_Clock_init_3, sFld_eq, eC_eq, sb_ok, eVar_0, putI_at (show (["rest", "parts", "step"] : List Str).length < 900 by decide), pk4, pw4]) ?_
  refine ws_step (ρ' := ρi S ss r none none none none) (S' := S ++ [.ins "Clock" ckeys [fq r, .ob (S.length + 1), .int 0, .tup [.int 0, .int 1], .ob (S.length + 2)], .lst [], .dtt []]) (by
    simp only [c_Clock_init_4, sFld_eq, eDttS_eq, sb_ok, eVar_0, List.length_append, List.length_cons, List.length_nil, Nat.zero_add, List.append_assoc, List.cons_append, List.nil_append,
      putI_at (show (["rest", "parts", "step", "moment"] : List Str).length < 900 by decide), pk5, pw5]) ?_
  refine ws_forV (qs := ss) (g := sd) (it := .tup (ss.map sd)) (S1 := cst S [] r) ?_ (.inl rfl) (fun i ρ S' => S' = cst S (ss.take i) r ∧ ∃ y3 y4 y5 y6, ρ = ρi S ss r y3 y4 y5 y6) ⟨by simp, _, _, _, _, rfl⟩ ?_ ?_
  · simp only [iSeq_eq, eVar_s, eVar_0, bind_ok]
    rfl
  · rintro i hi ρ S' ⟨rfl, y3, y4, y5, y6, rfl⟩
    have ok := h.all _ (List.getElem_mem hi)
    have m1 := ok.m1
    have m2 := ok.m2
    obtain ⟨t1, t2⟩ := h.take i
    refine ⟨_, put_nm _ _ _ _, ?_⟩
    have g1 := fun ρ => get_step (cst_ins (S := S) (ss := ss.take i) (r := r)) (some (.ob S.length) :: ρ) (eVar 0) rfl
    have g2 := fun ρ => get_moment (cst_ins (S := S) (ss := ss.take i) (r := r)) (some (.ob S.length) :: ρ) (eVar 0) rfl
    have g3 := fun ρ => get_parts (cst_ins (S := S) (ss := ss.take i) (r := r)) (some (.ob S.length) :: ρ) (eVar 0) rfl
    have i0 : ∀ S, oIx (sd ss[i]) (.int 0) S = .ok (.int ss[i].m) S := fun S => rfl
    have e1 := fun S => line_of_ok ok S
    have e2 := fun S => tot_ok ok (k := ss[i].m) (by omega) S
    have e3 := fun S => plus_ok (Bq_tm t1 t2) (Bq_tot ok (k := ss[i].m) (by omega)) (by omega) S
    rw [← tm_take_succ hi] at e3
    simp only [List.set]
    refine ws_step (ρ' := ρi S ss r (some (sd ss[i])) (some (.int (sm (ss.take i) + ss[i].m))) y5 y6) (S' := cst S (ss.take i) r) (by
      simp only [c_Clock_init_5_0, sAsg_nm, eOp_eq, g1, bind_ok, eVar_s, eVar_0, eC_eq, i0, oAdd_int, sb_ok, List.set]) ?_
    refine ws_step (ρ' := ρi S ss r (some (sd ss[i])) (some (.int (sm (ss.take i) + ss[i].m))) (some (ln ss[i])) y6) (S' := cst S (ss.take i) r) (by
      simp only [c_Clock_init_5_1, sAsg_nm, eCall_eq, aCons_eq, aNil_eq, bind_ok, eVar_s, eVar_0, e1, sb_ok, List.set]) ?_
    refine ws_step (ρ' := ρi S ss r (some (sd ss[i])) (some (.int (sm (ss.take i) + ss[i].m))) (some (ln ss[i])) (some (fq (tm (ss.take (i + 1)))))) (S' := cst S (ss.take i) r) (by
      simp only [c_Clock_init_5_2, sAsg_nm, eCall_eq, aCons_eq, aNil_eq, bind_ok, eOp_eq, eC_eq, i0, g2, eVar_s, eVar_0, e2, e3, sb_ok, List.set]) ?_
    have pl : szOk (pts (ss.take i)).length = true := gd_of (by rw [pts_len]; omega)
    refine ws_step (ρ' := ρi S ss r (some (sd ss[i])) (some (.int (sm (ss.take i) + ss[i].m))) (some (ln ss[i])) (some (fq (tm (ss.take (i + 1)))))) (S' := S ++ [cins (ss.take i) r S.length, .lst (pts (ss.take (i + 1))), .dtt []]) (by
      simp only [c_Clock_init_5_3, sExpr_eq, eApp_eq, g3, bind_ok, stoA, eTup_eq, aCons_eq, aNil_eq, g1, g2, eVar_s, eVar_0, List.length_cons, List.length_nil, show szOk (0 + 1 + 1 + 1 + 1 + 1) = true from gd_of (by decide), if_true, pl, setA, sb_ok, pts_take i hi, pt, tm_take_succ hi]) ?_
    refine ws_step (ρ' := ρi S ss r (some (sd ss[i])) (some (.int (sm (ss.take i) + ss[i].m))) (some (ln ss[i])) (some (fq (tm (ss.take (i + 1)))))) (S' := S ++ [.ins "Clock" ckeys [fq r, .ob (S.length + 1), .int (sm (ss.take (i + 1))), fq (tm (ss.take i)), .ob (S.length + 2)], .lst (pts (ss.take (i + 1))), .dtt []]) (by
      simp only [c_Clock_init_5_4, sFld_eq, eVar_s, eVar_0, sb_ok, cins, putI_at (show ckeys.length < 900 by decide), pk6, pw6, sm_take_succ hi]) ?_
    have e9 : c_Clock_init_5_5 (ρi S ss r (some (sd ss[i])) (some (.int (sm (ss.take i) + ss[i].m))) (some (ln ss[i])) (some (fq (tm (ss.take (i + 1)))))) (S ++ [.ins "Clock" ckeys [fq r, .ob (S.length + 1), .int (sm (ss.take (i + 1))), fq (tm (ss.take i)), .ob (S.length + 2)], .lst (pts (ss.take (i + 1))), .dtt []]) =
        .nx (ρi S ss r (some (sd ss[i])) (some (.int (sm (ss.take i) + ss[i].m))) (some (ln ss[i])) (some (fq (tm (ss.take (i + 1)))))) (cst S (ss.take (i + 1)) r) := by
      simp only [c_Clock_init_5_5, sFld_eq, eVar_s, eVar_0, sb_ok, cins, putI_at (show ckeys.length < 900 by decide), pk7, pw7]; rfl
    rw [e9]
    exact ⟨rfl, _, _, _, _, rfl⟩
  · rintro ρ S' ⟨rfl, y3, y4, y5, y6, rfl⟩
    rw [List.take_length]
    exact ⟨rfl, rfl⟩
theorem make_ok (h : Tok B ss r) (hB : 50 * B + 1400 ≤ 13000) (S : Sto) : makeR "Clock" F_Clock_init [td ss r] S = .ok (.ob S.length) (cst S ss r) := by
  unfold makeR
  rw [init_ok h hB S]
theorem clk_cst (S : Sto) : Clk (cst S ss r) S.length ss r [] := ⟨cst_ins, stoA, stoB, .nil⟩
theorem moment_of_ok (h : Tok B ss r) (hp : Bq m p) (hm : m + 50 * B + 1400 ≤ 13000) (h0 : 0 ≤ p) (S : Sto) : F_moment_of [td ss r, fq p] S = .ok (fq (mo ss r p)) S := by
  have e0 := fun S => refuse_ok h S
  have e1 := fun S => refuse_place_ok h0 S
  have e2 := make_ok h (by omega) S
  obtain ⟨kn', ok', _, e3⟩ := moment_at_ok h (clk_cst (ss := ss) (r := r) S) (by decide) hp hm h0
  rw [setB] at e3
  have lk := (lkc (fq r) (.ob (S.length + 1)) (.int (sm ss)) (fq (tm ss)) (.ob (S.length + 2))).2.2.2.2.2.2.2.1
  have e4 : c_moment_of_2 [some (td ss r), some (fq p)] S = .rt (fq (mo ss r p)) (S ++ [cins ss r S.length, .lst (pts ss), .dtt kn']) := by
    simp only [c_moment_of_2, sRet_eq, eMeth_eq, eMakeS_eq, aCons_eq, aNil_eq, eVar_s, eVar_0, bind_ok, e2, ins_of cst_ins, lk, Option.isSome_none, Bool.false_eq_true, if_false, e3, Res.noex, sb_ok]
  unfold F_moment_of b_moment_of
  refine run_eq (X := [cins ss r S.length, .lst (pts ss), .dtt kn']) ?_ pl_fq
  refine (seq_nx (ρ' := [some (td ss r), some (fq p)]) (S' := S) (by simp [c_moment_of_0, e0]) _).trans ?_
  refine (seq_nx (ρ' := [some (td ss r), some (fq p)]) (S' := S) (by simp [c_moment_of_1, e1]) _).trans ?_
  exact e4
theorem place_of_ok (h : Tok B ss r) (hx : Bq m x) (hm : m + 52 * B + 1500 ≤ 13000) (h0 : 0 ≤ x) (S : Sto) : ∃ y : Rat, F_place_of [td ss r, fq x] S = .ok (fq y) S ∧ 0 ≤ y ∧ mo ss r y = x ∧ Bq (m + 52 * B + 1400) y := by
  have e0 := fun S => refuse_ok h S
  have e1 := fun S => refuse_moment_ok h0 S
  have e2 := make_ok h (by omega) S
  obtain ⟨y, kn', ok', _, e3, y0, ym, yb⟩ := place_at_ok h (clk_cst (ss := ss) (r := r) S) (by decide) hx hm h0
  rw [setB] at e3
  have lk := (lkc (fq r) (.ob (S.length + 1)) (.int (sm ss)) (fq (tm ss)) (.ob (S.length + 2))).2.2.2.2.2.2.2.2
  have e4 : c_place_of_2 [some (td ss r), some (fq x)] S = .rt (fq y) (S ++ [cins ss r S.length, .lst (pts ss), .dtt kn']) := by
    simp only [c_place_of_2, sRet_eq, eMeth_eq, eMakeS_eq, aCons_eq, aNil_eq, eVar_s, eVar_0, bind_ok, e2, ins_of cst_ins, lk, Option.isSome_none, Bool.false_eq_true, if_false, e3, Res.noex, sb_ok]
  refine ⟨y, ?_, y0, ym, yb⟩
  unfold F_place_of b_place_of
  refine run_eq (X := [cins ss r S.length, .lst (pts ss), .dtt kn']) ?_ pl_fq
  refine (seq_nx (ρ' := [some (td ss r), some (fq x)]) (S' := S) (by simp [c_place_of_0, e0]) _).trans ?_
  refine (seq_nx (ρ' := [some (td ss r), some (fq x)]) (S' := S) (by simp [c_place_of_1, e1]) _).trans ?_
  exact e4
/-- the length of a step, from a stretch on -/
theorem le_split : ∀ {ss : List St} {i : Nat} {k : Int}, (∀ s ∈ ss, Sok B s) → sm (ss.take i) ≤ k → le ss r k = le (ss.drop i) r (k - sm (ss.take i))
  | ss, 0, k, _, _ => by simp
  | [], i + 1, k, _, _ => by simp
  | s :: ss, i + 1, k, h, hk => by
    have h' : ∀ s ∈ ss, Sok B s := fun s hs => h s (by simp [hs])
    have n0 := (sm_take_le (ss := ss) (i := i) h').1
    simp only [List.take_succ_cons, List.drop_succ_cons, sm_cons] at hk ⊢
    have ih := le_split (ss := ss) (i := i) (k := k - s.m) h' (by omega)
    rw [show k - s.m - sm (ss.take i) = k - (s.m + sm (ss.take i)) by omega] at ih
    show (if k < s.m then len s k else le ss r (k - s.m)) = _
    rw [if_neg (by omega), ih]
theorem le_in {i : Nat} (hi : i < ss.length) (h : ∀ s ∈ ss, Sok B s) (a : sm (ss.take i) ≤ k) (b : k < sm (ss.take (i + 1))) : le ss r k = len ss[i] (k - sm (ss.take i)) := by
  rw [le_split h a, List.drop_eq_getElem_cons hi]
  rw [sm_take_succ hi] at b
  show (if k - sm (ss.take i) < ss[i].m then _ else _) = _
  rw [if_pos (by omega)]
theorem le_out (h : ∀ s ∈ ss, Sok B s) (a : sm ss ≤ k) : le ss r k = r := by
  have := le_split (r := r) (i := ss.length) h (by simpa using a)
  simpa [le] using this
theorem length_at_ok (h : Tok B ss r) (h0 : 0 ≤ k) (S : Sto) : F_length_at [td ss r, .int k] S = .ok (fq (le ss r k)) S := by
  refine eq_of_wp (wp_run ?_)
  show Ws (b_length_at [some (td ss r), some (.int k), none, none, none, none] S) _
  unfold b_length_at
  refine ws_step (ρ' := [some (td ss r), some (.int k), some (.tup (ss.map sd)), some (fq r), none, none]) (S' := S) (by simp [c_length_at_0, td]) ?_
  refine ws_step (ρ' := [some (td ss r), some (.int k), some (.tup (ss.map sd)), some (fq r), some (.int 0), none]) (S' := S) (by simp [c_length_at_1]) ?_
  refine ws_seq ?_
  refine ws_forV (qs := ss) (g := sd) (it := .tup (ss.map sd)) (S1 := S) (by simp) (.inl rfl) (fun i ρ S' => S' = S ∧ sm (ss.take i) ≤ k ∧ ∃ y5, ρ = [some (td ss r), some (.int k), some (.tup (ss.map sd)), some (fq r), some (.int (sm (ss.take i))), y5]) ⟨rfl, by simpa using h0, none, by simp⟩ ?_ ?_
  · rintro i hi ρ S' ⟨rfl, hle, y5, rfl⟩
    have ok := h.all _ (List.getElem_mem hi)
    have i0 : ∀ S, oIx (sd ss[i]) (.int 0) S = .ok (.int ss[i].m) S := fun S => rfl
    refine ⟨_, put_nm _ _ _ _, ?_⟩
    simp only [List.set]
    by_cases hk : k < sm (ss.take i) + ss[i].m
    · have hk' : k < sm (ss.take (i + 1)) := by rw [sm_take_succ hi]; exact hk
      have m2 := ok.m2
      have e1 := fun S => line_of_ok ok S
      have e2 := fun S => len_ok ok (k := k - sm (ss.take i)) (by omega) S
      rw [← le_in (r := r) hi h.all hle hk'] at e2
      have : c_length_at_2_0 [some (td ss r), some (.int k), some (.tup (ss.map sd)), some (fq r), some (.int (sm (ss.take i))), some (sd ss[i])] S' = .rt (fq (le ss r k)) S' := by
        simp [c_length_at_2_0, i0, hk, e1, e2]
      rw [ws_seq_eq, this]
      exact end_pure0 (E := nE) pl_fq ⟨rfl, rfl⟩
    · refine ws_step (ρ' := [some (td ss r), some (.int k), some (.tup (ss.map sd)), some (fq r), some (.int (sm (ss.take i))), some (sd ss[i])]) (S' := S') (by simp [c_length_at_2_0, i0, hk]) ?_
      have : c_length_at_2_1 [some (td ss r), some (.int k), some (.tup (ss.map sd)), some (fq r), some (.int (sm (ss.take i))), some (sd ss[i])] S' = .nx [some (td ss r), some (.int k), some (.tup (ss.map sd)), some (fq r), some (.int (sm (ss.take (i + 1)))), some (sd ss[i])] S' := by
        simp [c_length_at_2_1, sAug, i0, sm_take_succ hi]
      rw [this]
      exact ⟨rfl, by rw [sm_take_succ hi]; omega, _, rfl⟩
  · rintro ρ S' ⟨rfl, hle, y5, rfl⟩
    rw [List.take_length] at hle
    have lo := le_out (r := r) h.all hle
    have e : c_length_at_3 [some (td ss r), some (.int k), some (.tup (ss.map sd)), some (fq r), some (.int (sm (ss.take ss.length))), y5] S' = .rt (fq (le ss r k)) S' := by
      simp only [c_length_at_3, sRet_eq, eVar_s, eVar_0, sb_ok, lo]
    dsimp only
    rw [e]
    exact end_pure0 (E := nE) pl_fq ⟨rfl, rfl⟩
theorem Bq_le (h : Tok B ss r) (h0 : 0 ≤ k) : Bq (2 * B + 30) (le ss r k) := by
  have main : ∀ {ss : List St} {k : Int}, (∀ s ∈ ss, Sok B s) → 0 ≤ k → Bq (2 * B + 30) (le ss r k) := by
    intro ss
    induction ss with
    | nil => intro k _ _; exact h.br.mono (by omega)
    | cons s ss ih =>
      intro k hs hk
      show Bq _ (if k < s.m then len s k else le ss r (k - s.m))
      have ok := hs s (by simp)
      have := ok.m2
      split
      · exact Bq_len ok (by omega)
      · exact ih (fun s h => hs s (by simp [h])) (by omega)
  exact main h.all h0
theorem length_of_ok (h : Tok B ss r) (h0 : 0 ≤ k) (S : Sto) : F_length_of [td ss r, .int k] S = .ok (fq (le ss r k)) S := by
  have e0 := fun S => refuse_ok h S
  have e1 := fun S => is_whole_ok k S
  have e2 := fun S => length_at_ok h h0 S
  have nk : ¬ k < 0 := by omega
  unfold F_length_of b_length_of
  refine run_eq0 ?_ pl_fq
  refine (seq_nx (ρ' := [some (td ss r), some (.int k)]) (S' := S) (by simp [c_length_of_0, e0]) _).trans ?_
  refine (seq_nx (ρ' := [some (td ss r), some (.int k)]) (S' := S) (by simp [c_length_of_1, e1, nk]) _).trans ?_
  simp [c_length_of_2, e2]
end
end Fx
set_option Elab.async false
set_option linter.all false
set_option maxRecDepth 100000
set_option exponentiation.threshold 20000
/-! tempos as the laws draw them -/
namespace Fx
open PySem L2 DV
section
variable {ns : List Int} {p : Int × Int} {T : Sto} {k n m : Nat} {Q : D → Sto → Prop} {E : Str → Sto → Prop} {u v : Rat}
theorem pow9 (S : Sto) : oPow (.int 10) (.int 9) S = .ok (.int 1000000000) S := oPow_int S (by decide)
theorem pos_frac {a b : Int} (ha : 0 < a) (hb : 0 < b) : 0 < Rat.divInt a b := by
  rw [divInt_div]
  have h1 : (0 : Rat) < (a : Rat) := by
    have : ((0 : Int) : Rat) < (a : Rat) := by rw [clt]; exact ha
    exact this
  have h2 : (0 : Rat) < (b : Rat) := by
    have : ((0 : Int) : Rat) < (b : Rat) := by rw [clt]; exact hb
    exact this
  refine pos_of_mul h2 ?_
  have : (b : Rat) * ((a : Rat) / (b : Rat)) = (a : Rat) := by grind
  rw [this]
  exact h1
theorem wp_above (h : Pk p k) (hk : k + 3 ≤ 1000000000000) (q : ∀ x p', 0 < x → Bq 30 x → Pk p' (k + 3) → Q (fq x) (Pn ns p' T)) : Wp (F_l_above [.ob 0] (Pn ns p T)) Q E := by
  refine wp_run ?_
  show Ws (b_l_above [some (.ob 0), none] (Pn ns p T)) _
  unfold b_l_above
  refine ws_seq ?_
  simp only [c_l_above_0, sAsg_nm, eOp_eq, eLst_eq, aCons_eq, aNil_eq, eC_eq, bind_ok, pow9, oSub_int, List.length_cons, List.length_nil, show szOk (0 + 1 + 1 + 1 + 1 + 1) = true from gd_of (by decide), if_true, eCall_eq, eVar_0, ws_sb, wp_bind]
  refine wp_draw h (by omega) (by decide) (by decide) fun d p1 d0 d1 h1 => ?_
  obtain ⟨v, hv, ev⟩ := atI_mem (l := [D.int 6, .int 6, .int 12, .int 12, .int (1000000000 - 1)]) d0 (by simpa using d1)
  have hv2 : ∃ w : Int, v = .int w ∧ 1 ≤ w ∧ w ≤ 999999999 := by
    simp only [List.mem_cons, List.not_mem_nil, or_false] at hv
    rcases hv with rfl | rfl | rfl | rfl | rfl <;> exact ⟨_, rfl, by decide, by decide⟩
  obtain ⟨w, rfl, w1, w2⟩ := hv2
  simp only [oIx_lst, ev, wp_ok, ws_nx, List.set, c_l_above_1, sRet_eq, eCall_eq, aCons_eq, aNil_eq, eOp_eq, eC_eq, eVar_s, eVar_0, bind_ok, ws_sb, wp_bind]
  refine wp_draw h1 (by omega) (by omega) (by omega) fun a p2 a0 a1 h2 => ?_
  simp only [oAdd_int, wp_ok, wp_bind, ws_sb]
  refine wp_draw h2 (by omega) (by omega) (by omega) fun b p3 b0 b1 h3 => ?_
  simp only [oAdd_int, wp_ok, wp_bind, ws_sb]
  rw [l_low_ok _ (by omega) (pow_mono (n := 30) (by omega) (by omega)) (pow_mono (n := 30) (by omega) (by omega))]
  refine ⟨Pn ns p3 T, [], _, by simp, kp_pen, frz_pl 40 _ pl_fq, ?_⟩
  exact q _ _ (pos_frac (by omega) (by omega)) (Bq_divInt (by omega) (by omega) (by omega)) h3
theorem l_mul_ok (hp : Bq n u) (hq : Bq m v) (h : n + m ≤ 13000) (S : Sto) : F_l_mul [fq u, fq v] S = .ok (fq (u * v)) S := by
  obtain ⟨h1, h2, h3, h4, h5, _⟩ := sum_ok hp hq
  have g1 : mulOk u.num v.num = true := mulOk_of hp.1 hq.1 (by omega)
  have g2 : mulOk (u.den : Int) (v.den : Int) = true := mulOk_of (by rw [den_abs]; exact hp.2) (by rw [den_abs]; exact hq.2) (by omega)
  have e := l_low_ok S (dd_ne (p := u) (q := v)) (pow_mono h5 h) (pow_mono h4 h)
  rw [mul_eq] at e
  unfold F_l_mul b_l_mul
  refine run_eq0 ?_ pl_fq
  simp only [fq] at e ⊢
  simp [c_l_mul_0, oMul_int, g1, g2, e]
/-- times 1 over a whole number, as a pair that need not be in lowest terms -/
theorem l_mulR {c d : Int} (hp : Bq n u) (hc : c.natAbs < 2 ^ m) (hd : d.natAbs < 2 ^ m) (h0 : d ≠ 0) (h : n + m ≤ 13000) (S : Sto) : F_l_mul [fq u, .tup [.int c, .int d]] S = .ok (fq (u * ((c : Rat) / (d : Rat)))) S := by
  have g1 : mulOk u.num c = true := mulOk_of hp.1 hc (by omega)
  have g2 : mulOk (u.den : Int) d = true := mulOk_of (by rw [den_abs]; exact hp.2) hd (by omega)
  have h1 : (u.num * c).natAbs < 2 ^ (n + m) := mul_lt hp.1 hc
  have h2 : ((u.den : Int) * d).natAbs < 2 ^ (n + m) := mul_lt (by rw [den_abs]; exact hp.2) hd
  have e := l_low_ok S (Int.mul_ne_zero (den_ne u) h0) (pow_mono h1 h) (pow_mono h2 h)
  rw [← Rat.divInt_mul_divInt, Rat.divInt_ofNat, Rat.mkRat_self, divInt_div] at e
  unfold F_l_mul b_l_mul
  refine run_eq0 ?_ pl_fq
  simp only [fq] at e ⊢
  simp [c_l_mul_0, oMul_int, g1, g2, e]
end
section
variable {B : Nat} {s t : St}
theorem sd0 (s : St) (S : Sto) : oIx (sd s) (.int 0) S = .ok (.int s.m) S := rfl
theorem sd1 (s : St) (S : Sto) : oIx (sd s) (.int 1) S = .ok (fq s.f) S := rfl
theorem sd2 (s : St) (S : Sto) : oIx (sd s) (.int 2) S = .ok (fq s.l) S := rfl
theorem l_goes_on_ok (hs : Sok B s) (ht : Sok B t) (S : Sto) : F_l_goes_on [sd s, sd t] S = .ok (.bl (decide (s.l = t.f ∧ rise s = rise t))) S := by
  have bb := hs.bb
  have a1 := fun S => l_sub_ok hs.bl hs.bf (by omega) S
  have a2 := fun S => l_sub_ok ht.bl ht.bf (by omega) S
  have b1 := fun S => l_mulR (Bq_sub hs.bl hs.bf) (c := 1) (d := s.m) (m := 18) (by decide) (by have := hs.m1; have := hs.m2; omega) (by have := hs.m1; omega) (by omega) S
  have b2 := fun S => l_mulR (Bq_sub ht.bl ht.bf) (c := 1) (d := t.m) (m := 18) (by decide) (by have := ht.m1; have := ht.m2; omega) (by have := ht.m1; omega) (by omega) S
  have c1 : ∀ s : St, (s.l - s.f) * (((1 : Int) : Rat) / (s.m : Rat)) = rise s := fun s => by unfold rise; grind
  simp only [c1] at b1 b2
  unfold F_l_goes_on b_l_goes_on
  refine run_eq0 ?_ (by simp [Pl])
  refine (seq_nx (ρ' := [some (sd s), some (sd t), some (fq (rise s))]) (S' := S) (by simp [c_l_goes_on_0, sd0, sd1, sd2, a1, b1]) _).trans ?_
  by_cases hl : s.l = t.f
  · by_cases hr : rise s = rise t
    · simp [c_l_goes_on_1, sd0, sd1, sd2, a2, b2, hl, hr]
    · simp [c_l_goes_on_1, sd0, sd1, sd2, a2, b2, hl, hr]
  · simp [c_l_goes_on_1, sd1, sd2, hl]
end
def Adj (ss : List St) : Prop := ∀ (i : Nat) (h : i + 1 < ss.length), ¬ (ss[i].l = ss[i + 1].f ∧ rise ss[i] = rise ss[i + 1])
theorem Adj.nil : Adj [] := fun i h => by simp at h
theorem Adj.snoc {ss : List St} {t : St} (h : Adj ss) (hl : ∀ h : ss ≠ [], ¬ ((ss.getLast h).l = t.f ∧ rise (ss.getLast h) = rise t)) : Adj (ss ++ [t]) := by
  intro i hi
  rw [List.length_append, List.length_singleton] at hi
  by_cases h1 : i + 1 < ss.length
  · have := h i h1
    rw [List.getElem_append_left (by omega), List.getElem_append_left h1]
    exact this
  · have hi2 : i + 1 = ss.length := by omega
    have hne : ss ≠ [] := fun e => by rw [e] at hi2; simp at hi2
    have := hl hne
    rw [List.getElem_append_left (by omega), List.getElem_append_right (by omega)]
    rw [List.getLast_eq_getElem] at this
    have e1 : ss.length - 1 = i := by omega
    simp only [e1] at this
    simp only [hi2, Nat.sub_self, List.getElem_cons_zero]
    exact this
theorem Adj.drop {ss : List St} (h : Adj ss) : Adj ss.dropLast := by
  intro i hi
  rw [List.length_dropLast] at hi
  rw [List.getElem_dropLast, List.getElem_dropLast]
  exact h i (by omega)
/-- stretches of at most M steps, no two of which are one line -/
structure Gs (M : Int) (ss : List St) : Prop where
  all : ∀ s ∈ ss, Sok 40 s ∧ s.m ≤ M
  adj : Adj ss
theorem Gs.nil {M : Int} : Gs M [] := ⟨fun s h => by simp at h, .nil⟩
theorem Gs.snoc {M : Int} {ss : List St} {t : St} (h : Gs M ss) (ht : Sok 40 t ∧ t.m ≤ M) (hl : ∀ h : ss ≠ [], ¬ ((ss.getLast h).l = t.f ∧ rise (ss.getLast h) = rise t)) : Gs M (ss ++ [t]) := ⟨fun s hs => by
  rcases List.mem_append.mp hs with hs | hs
  · exact h.all s hs
  · rw [List.mem_singleton.mp hs]; exact ht, h.adj.snoc hl⟩
theorem Gs.drop {M : Int} {ss : List St} (h : Gs M ss) : Gs M ss.dropLast := ⟨fun s hs => h.all s (List.dropLast_subset _ hs), h.adj.drop⟩
end Fx
set_option Elab.async false
set_option linter.all false
set_option maxRecDepth 100000
set_option exponentiation.threshold 20000
/-! the laws' drawn numbers -/
namespace Fx
open PySem L2 DV
section
variable {ns : List Int} {p : Int × Int} {T : Sto} {k : Nat} {Q : D → Sto → Prop} {E : Str → Sto → Prop} {N : Pq}
theorem pw12 (S : Sto) : oPow (.int 10) (.int 12) S = .ok (.int 1000000000000) S := oPow_int S (by decide)
theorem pw48 (S : Sto) : oPow (.int 10) (.int 48) S = .ok (.int 1000000000000000000000000000000000000000000000000) S := oPow_int S (by decide)
theorem wp_number (h : Pk p k) (hk : k + 20 ≤ 1000000000000) (q : ∀ i p', i.natAbs < 1000000000000000000000000000000000000000000000000000000000000 → Pk p' (k + 20) → Q (.int i) (Pn ns p' T)) : Wp (F_l_number [.ob 0] (Pn ns p T)) Q E := by
  have z2 : szOk (0 + 1 + 1) = true := gd_of (by decide)
  have g5 : gd (-(2 ^ 62) ≤ (5 : Int) ∧ (5 : Int) < 2 ^ 62) = true := gd_of (by omega)
  refine wp_run ?_
  show Ws (b_l_number [some (.ob 0), none, none, none] (Pn ns p T)) _
  unfold b_l_number
  refine ws_seq ?_
  simp only [c_l_number_0, sPar_eq, eCall_eq, aCons_eq, aNil_eq, eC_eq, eVar_s, eVar_0, bind_ok, ws_sb, wp_bind]
  refine wp_draw h (by omega) (by decide) (by decide) fun w p1 w0 w1 h1 => ?_
  simp only [wp_ok, wp_bind, bind_ok, ws_sb]
  refine wp_draw h1 (by omega) (by decide) (by decide) fun f p2 f0 f1 h2 => ?_
  simp only [wp_ok, wp_bind, bind_ok, ws_sb, ws_nx, List.set]
  -- the last step
  have last : ∀ (f : Int) (p' : Int × Int) (o3 : Option D), 0 ≤ f → f < 1000000000000000000000000000000000000000000000000000000000000 → Pk p' (k + 10) → Ws (c_l_number_4 [some (.ob 0), some (.int w), some (.int f), o3] (Pn ns p' T)) (endP (Pn ns p T) Q E) := by
    intro f p' o3 f0 f1 hp
    simp only [c_l_number_4, sRet_eq, eOp_eq, eLst_eq, eNeg_eq, eCall_eq, aCons_eq, aNil_eq, eC_eq, eVar_s, eVar_0, bind_ok, List.length_cons, List.length_nil, z2, if_true, ws_sb, wp_bind]
    refine wp_draw hp (by omega) (by decide) (by decide) fun v p3 v0 v1 h3 => ?_
    have hv : v = 0 ∨ v = 1 := by omega
    have g : ∀ i : Int, i.natAbs < 4 → mulOk f i = true := fun i hi => mulOk_of (a := 200) (b := 2) (by omega) hi (by decide)
    rcases hv with rfl | rfl
    · have e : atI [D.int 1, .int (-1)] 0 = some (.int 1) := rfl
      simp only [oIx_lst, e, wp_ok, wp_bind, bind_ok, oMul_int _ (g 1 (by decide)), ws_rt]
      exact ⟨Pn ns p3 T, [], .int (f * 1), by simp, kp_pen, frz_pl 40 _ (by simp only [Pl]), q _ p3 (by omega) (h3.mono (by omega))⟩
    · have e : atI [D.int 1, .int (-1)] 1 = some (.int (-1)) := rfl
      simp only [oIx_lst, e, wp_ok, wp_bind, bind_ok, oMul_int _ (g (-1) (by decide)), ws_rt]
      exact ⟨Pn ns p3 T, [], .int (f * -1), by simp, kp_pen, frz_pl 40 _ (by simp only [Pl]), q _ p3 (by omega) (h3.mono (by omega))⟩
  refine ws_seq ?_
  have s2 : ∀ (f : Int) (p' : Int × Int), 0 ≤ f → f < 1000000000000 → Pk p' (k + 3) → Ws (c_l_number_2 [some (.ob 0), some (.int w), some (.int f), none] (Pn ns p' T)) { endP (Pn ns p T) Q E with nx := fun ρ' S' => Ws ((sSeq c_l_number_3 c_l_number_4) ρ' S') (endP (Pn ns p T) Q E) } := by
    intro f p' f0 f1 hp
    have s3 : ∀ (f : Int) (p' : Int × Int), 0 ≤ f → f < 1000000000000 → Pk p' (k + 4) → Ws ((sSeq c_l_number_3 c_l_number_4) [some (.ob 0), some (.int w), some (.int f), none] (Pn ns p' T)) (endP (Pn ns p T) Q E) := by
      intro f p' f0 f1 hp
      refine ws_seq ?_
      by_cases hw : w = 4
      · have hw' : (w == 4) = true := by simpa using hw
        simp only [c_l_number_3, sIf_eq, tTru_eq, eOp_eq, eC_eq, eVar_s, eVar_0, bind_ok, oEq_int2, hw', truD_bl, if_true, sb_ok]
        refine ws_forR (lo := 0) (n := 5) (S1 := Pn ns p' T) (by simp only [iRng_eq, aCons_eq, aNil_eq, eC_eq, bind_ok, g5, if_true]; rfl) (fun i ρ S => ∃ x3 f p', ρ = [some (.ob 0), some (.int w), some (.int f), x3] ∧ S = Pn ns p' T ∧ 0 ≤ f ∧ f < 1000000000000000000000000000000000000000000000000000000000000 ∧ Pk p' (k + 4 + i)) ⟨none, f, p', rfl, rfl, f0, by omega, hp⟩ ?_ ?_
        · rintro i hi ρ S ⟨x3, f, p', rfl, rfl, f0, f1, hp⟩
          refine ⟨_, put_nm _ _ _ _, ?_⟩
          have hm := modB f (p := 1000000000000000000000000000000000000000000000000) (by decide)
          have g : mulOk (f % 1000000000000000000000000000000000000000000000000) 1000000000000 = true := mulOk_of (a := 180) (b := 180) (by omega) (by decide) (by decide)
          have em : ∀ S, oMod (.int f) (.int 1000000000000000000000000000000000000000000000000) S = .ok (.int (f % 1000000000000000000000000000000000000000000000000)) S := fun S => oMod_int S (by decide)
          simp only [List.set, sAsg_nm, eOp_eq, eCall_eq, aCons_eq, aNil_eq, eC_eq, eVar_s, eVar_0, bind_ok, pw12, pw48, em, oMul_int _ g, ws_sb, wp_bind]
          refine wp_draw hp (by omega) (by decide) (by decide) fun v p3 v0 v1 h3 => ?_
          simp only [wp_ok, wp_bind, bind_ok, oAdd_int, ws_nx, List.set]
          exact ⟨_, _, p3, rfl, rfl, by omega, by omega, h3.mono (by omega)⟩
        · rintro ρ S ⟨x3, f, p', rfl, rfl, f0, f1, hp⟩
          exact last f p' x3 f0 f1 (hp.mono (by omega))
      · have hw' : (w == 4) = false := by simpa using hw
        simp only [c_l_number_3, sIf_eq, tTru_eq, eOp_eq, eC_eq, eVar_s, eVar_0, bind_ok, oEq_int2, hw', truD_bl, Bool.false_eq_true, if_false, sb_ok, sNil_eq, ws_nx]
        exact last f p' none f0 (by omega) (hp.mono (by omega))
    by_cases hw : w = 3
    · have hw' : (w == 3) = true := by simpa using hw
      simp only [c_l_number_2, sIf_eq, tTru_eq, eOp_eq, eC_eq, eVar_s, eVar_0, bind_ok, oEq_int2, hw', truD_bl, if_true, sb_ok, sAsg_nm, eCall_eq, aCons_eq, aNil_eq, pw12, oSub_int, ws_sb, wp_bind]
      refine wp_draw hp (by omega) (by decide) (by decide) fun v p3 v0 v1 h3 => ?_
      simp only [wp_ok, wp_bind, bind_ok, oSub_int, ws_nx, List.set]
      exact s3 _ p3 (by omega) (by omega) (h3.mono (by omega))
    · have hw' : (w == 3) = false := by simpa using hw
      simp only [c_l_number_2, sIf_eq, tTru_eq, eOp_eq, eC_eq, eVar_s, eVar_0, bind_ok, oEq_int2, hw', truD_bl, Bool.false_eq_true, if_false, sb_ok, sNil_eq, ws_nx]
      exact s3 f p' f0 f1 (hp.mono (by omega))
  by_cases hw : w = 2
  · have hw' : (w == 2) = true := by simpa using hw
    simp only [c_l_number_1, sIf_eq, tTru_eq, eOp_eq, eC_eq, eVar_s, eVar_0, bind_ok, oEq_int2, hw', truD_bl, if_true, sb_ok, sAsg_nm, eCall_eq, aCons_eq, aNil_eq, pw12, ws_sb, wp_bind]
    refine wp_draw h2 (by omega) (by decide) (by decide) fun v p3 v0 v1 h3 => ?_
    simp only [ws_nx, List.set]
    refine ws_seq ?_
    exact s2 _ p3 (by omega) (by omega) (h3.mono (by omega))
  · have hw' : (w == 2) = false := by simpa using hw
    simp only [c_l_number_1, sIf_eq, tTru_eq, eOp_eq, eC_eq, eVar_s, eVar_0, bind_ok, oEq_int2, hw', truD_bl, Bool.false_eq_true, if_false, sb_ok, sNil_eq, ws_nx]
    refine ws_seq ?_
    exact s2 f p2 f0 (by omega) (h2.mono (by omega))
end
end Fx
set_option Elab.async false
set_option linter.all false
set_option maxRecDepth 100000
set_option exponentiation.threshold 20000
/-! the laws' tempo of some stretches -/
namespace DV
open PySem L2
theorem pyOf_ob {n : Nat} {xs : List D} {S : Sto} (h : S[n]? = some (.lst xs)) : pyOf 40 S (.ob n) = pyOf 40 S (.lst xs) := by
  simp only [pyOf, h]
theorem oEqG_obL {n : Nat} {xs : List D} {S : Sto} {b : D} {g : Bool} (h : S[n]? = some (.lst xs)) : oEqG g (.ob n) b S = oEqG g (.lst xs) b S := by
  simp only [oEqG, pyOf_ob h]
theorem oEq_obL {n : Nat} {xs : List D} {S : Sto} {b : D} (h : S[n]? = some (.lst xs)) : oEq (.ob n) b S = oEq (.lst xs) b S := oEqG_obL h
theorem oNe_obL {n : Nat} {xs : List D} {S : Sto} {b : D} (h : S[n]? = some (.lst xs)) : oNe (.ob n) b S = oNe (.lst xs) b S := oEqG_obL h
theorem gd_nil {α : Type} (f : α → D) (xs : List α) : gd (D.lst (xs.map f) = D.lst []) = xs.isEmpty := by
  cases xs with
  | nil => exact gd_of rfl
  | cons x xs =>
    cases z : gd (D.lst ((x :: xs).map f) = D.lst []) with
    | true => have := of_gd z; simp at this
    | false => rfl
theorem oEq_nilL {α : Type} {n : Nat} {f : α → D} {xs : List α} {S : Sto} (h : S[n]? = some (.lst (xs.map f))) (hf : ∀ x, Cn 38 (f x)) : oEq (.ob n) (.lst []) S = .ok (.bl xs.isEmpty) S := by
  rw [oEq_obL h, oEq_cn (by simp only [Cn]; exact cns_iff.mpr fun d hd => by obtain ⟨x, _, rfl⟩ := List.mem_map.mp hd; exact hf x) (by simp [Cn, Cns]), gd_nil]
theorem oNe_nilL {α : Type} {n : Nat} {f : α → D} {xs : List α} {S : Sto} (h : S[n]? = some (.lst (xs.map f))) (hf : ∀ x, Cn 38 (f x)) : oNe (.ob n) (.lst []) S = .ok (.bl (!xs.isEmpty)) S := by
  rw [oNe_obL h, oNe_cn (by simp only [Cn]; exact cns_iff.mpr fun d hd => by obtain ⟨x, _, rfl⟩ := List.mem_map.mp hd; exact hf x) (by simp [Cn, Cns]), gd_nil]
theorem oIx_obL {n : Nat} {xs : List D} {S : Sto} {i : Int} (h : S[n]? = some (.lst xs)) : oIx (.ob n) (.int i) S = oIx (.lst xs) (.int i) S := by
  simp only [oIx_ob, oIx_lst, lstOf_ob h]
theorem eApp_at {a b : EF} {ρ : Lc} {S S2 : Sto} {n : Nat} {xs ys : List D} {d : D} (h1 : a ρ S = .ok (.ob n) S) (h2 : S[n]? = some (.lst ys)) (h3 : b ρ S = .ok d S2) (h4 : S2[n]? = some (.lst xs)) (h5 : xs.length ≤ 1000000) : eApp a b ρ S = .ok .non (S2.set n (.lst (xs ++ [d]))) := by
  have g : szOk xs.length = true := gd_of h5
  simp only [eApp_eq, h1, bind_ok, h2, h3, h4, g, if_true]
theorem ePop_at {a : EF} {ρ : Lc} {S : Sto} {n : Nat} {xs : List D} (h1 : a ρ S = .ok (.ob n) S) (h2 : S[n]? = some (.lst xs)) (h3 : xs ≠ []) : ∃ d, ePop a ρ S = .ok d (S.set n (.lst xs.dropLast)) := by
  have hl : 0 < xs.length := List.length_pos_iff.mpr h3
  refine ⟨xs[xs.length - 1], ?_⟩
  simp only [ePop, h1, bind_ok, h2, List.getElem?_eq_getElem (show xs.length - 1 < xs.length by omega)]
theorem cTuple_ob {n : Nat} {xs : List D} {S : Sto} (h : S[n]? = some (.lst xs)) : cTuple [.ob n] S = .ok (.tup xs) S := by
  simp only [cTuple, lstOf_ob h]
theorem cTuple_lst {xs : List D} {S : Sto} : cTuple [.lst xs] S = .ok (.tup xs) S := rfl
end DV
namespace Fx
open PySem L2 DV
section
variable {ns : List Int} {p : Int × Int} {T E' : Sto} {k n m : Nat} {Q : D → Sto → Prop} {E : Str → Sto → Prop} {R : Rat} {N : Pq} {ss : List St} {x1 x4 x5 x6 x7 : Option D}
theorem pn_at : (Pn ns p (T ++ E'))[T.length + 1]? = E'[0]? := by
  show (penO ns p :: (T ++ E'))[T.length + 1]? = _
  rw [List.getElem?_cons_succ, List.getElem?_append_right (Nat.le_refl _), Nat.sub_self]
theorem pn_set {o o' : O} {E' : Sto} : (Pn ns p (T ++ o :: E')).set (T.length + 1) o' = Pn ns p (T ++ o' :: E') := by
  show (penO ns p :: (T ++ o :: E')).set (T.length + 1) o' = penO ns p :: (T ++ o' :: E')
  rw [List.set_cons_succ]
  simp
theorem pn_app : Pn ns p T ++ E' = Pn ns p (T ++ E') := rfl
theorem pn_len : (Pn ns p T).length = T.length + 1 := rfl
/-- a list of stretches under way -/
abbrev Ps (ns : List Int) (p : Int × Int) (T : Sto) (ss : List St) : Sto := Pn ns p (T ++ [.lst (ss.map sd)])
theorem ps_at : (Ps ns p T ss)[T.length + 1]? = some (.lst (ss.map sd)) := pn_at
theorem ps_eqnil : oEq (.ob (T.length + 1)) (.lst []) (Ps ns p T ss) = .ok (.bl ss.isEmpty) (Ps ns p T ss) := oEq_nilL ps_at fun _ => cn_sd
theorem ps_nenil : oNe (.ob (T.length + 1)) (.lst []) (Ps ns p T ss) = .ok (.bl (!ss.isEmpty)) (Ps ns p T ss) := oNe_nilL ps_at fun _ => cn_sd
theorem ps_last (he : ss ≠ []) : oIx (.ob (T.length + 1)) (.int (-1)) (Ps ns p T ss) = .ok (sd (ss.getLast he)) (Ps ns p T ss) := by
  rw [oIx_obL ps_at, oIx_lst, at_last he]
theorem ps_push {s : St} : (Ps ns p T ss).set (T.length + 1) (.lst (ss.map sd ++ [sd s])) = Ps ns p T (ss ++ [s]) := by
  rw [pn_set]
  show _ = Pn ns p (T ++ [.lst ((ss ++ [s]).map sd)])
  rw [List.map_append]; rfl
/-- the last one is appended unless it goes on -/
theorem push_ok {M : Int} {a b : EF} {ρ : Lc} {s : St} (g : Gs M ss) (hs : Sok 40 s ∧ s.m ≤ M) (hl : ss.length ≤ 1000) (ha : ∀ S, a ρ S = .ok (.ob (T.length + 1)) S) (hb : ∀ S, b ρ S = .ok (sd s) S) :
    ∃ ss', Gs M ss' ∧ ss'.length ≤ ss.length + 1 ∧ sIf (bOr (tTru (eOp oEq a (eLst aNil))) (bNot (tTru (eCall F_l_goes_on (aCons (eOp oIx a (eNeg (eC (.int 1)))) (aCons b aNil)))))) (sExpr (eApp a b)) sNil ρ (Ps ns p T ss) = .nx ρ (Ps ns p T ss') := by
  have z0 : szOk 0 = true := gd_of (by decide)
  have ap : eApp a b ρ (Ps ns p T ss) = .ok .non (Ps ns p T (ss ++ [s])) := by
    rw [eApp_at (ha _) ps_at (hb _) ps_at (by simp; omega), ps_push]
  by_cases he : ss = []
  · refine ⟨ss ++ [s], g.snoc hs (fun h => absurd he h), by simp, ?_⟩
    have ie : ss.isEmpty = true := by simpa using he
    simp only [sIf_eq, bOr_eq, tTru_eq, eOp_eq, ha, bind_ok, eLst_eq, aNil_eq, List.length_nil, z0, if_true, ps_eqnil, ie, truD_bl, sb_ok, sExpr_eq, ap]
  · have ie : ss.isEmpty = false := by simpa using he
    have go := fun S => l_goes_on_ok (g.all _ (List.getLast_mem he)).1 hs.1 S
    by_cases hg : (ss.getLast he).l = s.f ∧ rise (ss.getLast he) = rise s
    · refine ⟨ss, g, by omega, ?_⟩
      simp only [hg, and_self, decide_true] at go
      simp only [sIf_eq, bOr_eq, tTru_eq, eOp_eq, ha, hb, bind_ok, eLst_eq, aNil_eq, List.length_nil, z0, if_true, ps_eqnil, ie, truD_bl, sb_ok, bNot_eq, eCall_eq, aCons_eq, eNeg_eq, eC_eq, ps_last he, go, Bool.not_true, Bool.false_eq_true, if_false, sNil_eq]
    · refine ⟨ss ++ [s], g.snoc hs (fun _ => hg), by simp, ?_⟩
      simp only [hg, decide_false] at go
      simp only [sIf_eq, bOr_eq, tTru_eq, eOp_eq, ha, hb, bind_ok, eLst_eq, aNil_eq, List.length_nil, z0, if_true, ps_eqnil, ie, truD_bl, sb_ok, bNot_eq, eCall_eq, aCons_eq, eNeg_eq, eC_eq, ps_last he, go, Bool.not_false, Bool.false_eq_true, if_false, sExpr_eq, ap]
abbrev ρt (T : Sto) (R : Rat) (x1 x4 x5 x6 x7 : Option D) : Lc := [some (.ob 0), x1, some (fq R), some (.ob (T.length + 1)), x4, x5, x6, x7]
theorem tempo_turn (h : Pk p k) (hk : k + 12 ≤ 1000000000000) (g : Gs 9000 ss) (hl : ss.length ≤ 1000) (R0 : 0 < R) (bR : Bq 40 R)
    (hN : ∀ y5 y6 y7 ss' p', Gs 9000 ss' → ss'.length ≤ ss.length + 1 → Pk p' (k + 12) → N.nx (ρt T R x1 x4 y5 y6 y7) (Ps ns p' T ss')) :
    Ws ((sSeq c_l_tempo_2_0 (sSeq c_l_tempo_2_1 (sSeq c_l_tempo_2_2 (sSeq c_l_tempo_2_3 c_l_tempo_2_4)))) (ρt T R x1 x4 x5 x6 x7) (Ps ns p T ss)) N := by
  have z0 : szOk 0 = true := gd_of (by decide)
  have z3 : szOk (0 + 1 + 1 + 1) = true := gd_of (by decide)
  refine ws_seq ?_
  simp only [c_l_tempo_2_0, sAsg_nm, eCall_eq, aCons_eq, aNil_eq, eVar_0, bind_ok, ws_sb]
  refine wp_above h (by omega) fun f p1 f0 bf h1 => ?_
  simp only [ws_nx, List.set]
  refine ws_seq ?_
  -- the first length may be the last one of the elder one
  have part : ∀ (f : Rat) p2, 0 < f → Bq 40 f → Pk p2 (k + 4) → Ws ((sSeq c_l_tempo_2_2 (sSeq c_l_tempo_2_3 c_l_tempo_2_4)) (ρt T R x1 x4 (some (fq f)) x6 x7) (Ps ns p2 T ss)) N := by
    intro f p2 f0 bf h2
    refine ws_seq ?_
    simp only [c_l_tempo_2_2, sAsg_nm, eOp_eq, eLst_eq, aCons_eq, aNil_eq, eCall_eq, eVar_s, eVar_0, bind_ok, wp_bind, ws_sb]
    refine wp_above h2 (by omega) fun u p3 u0 bu h3 => ?_
    simp only [wp_ok, wp_bind, ws_sb, List.length_cons, List.length_nil, z3, if_true, eC_eq, bind_ok]
    refine wp_draw h3 (by omega) (by decide) (by decide) fun d p4 d0 d1 h4 => ?_
    obtain ⟨v, hv, ev⟩ := atI_mem (l := [fq f, fq u, fq R]) d0 (by simpa using d1)
    have hv2 : ∃ w : Rat, v = fq w ∧ 0 < w ∧ Bq 40 w := by
      simp only [List.mem_cons, List.not_mem_nil, or_false] at hv
      rcases hv with rfl | rfl | rfl
      · exact ⟨_, rfl, f0, bf⟩
      · exact ⟨_, rfl, u0, bu.mono (by decide)⟩
      · exact ⟨_, rfl, R0, bR⟩
    obtain ⟨w, rfl, w0, bw⟩ := hv2
    simp only [oIx_lst, ev, wp_ok, wp_bind, ws_sb, ws_nx, List.set]
    refine ws_seq ?_
    simp only [c_l_tempo_2_3, sAsg_nm, eTup_eq, aCons_eq, aNil_eq, eOp_eq, eC_eq, eCall_eq, eLst_eq, eVar_s, eVar_0, bind_ok, List.length_cons, List.length_nil, z3, if_true, wp_bind, ws_sb]
    refine wp_draw h4 (by omega) (by decide) (by decide) fun d p5 d0 d1 h5 => ?_
    obtain ⟨v, hv, ev⟩ := atI_mem (l := [D.int 12, .int 12, .int 9000]) d0 (by simpa using d1)
    have hv2 : ∃ w : Int, v = .int w ∧ 1 ≤ w ∧ w ≤ 9000 := by
      simp only [List.mem_cons, List.not_mem_nil, or_false] at hv
      rcases hv with rfl | rfl | rfl <;> exact ⟨_, rfl, by decide, by decide⟩
    obtain ⟨y, rfl, y1, y2⟩ := hv2
    simp only [oIx_lst, ev, wp_ok, wp_bind, ws_sb]
    refine wp_draw h5 (by omega) (by omega) (by omega) fun b p6 b0 b1 h6 => ?_
    simp only [oAdd_int, wp_ok, wp_bind, ws_sb, bind_ok, List.length_cons, List.length_nil, z3, if_true, ws_nx, List.set]
    have ok : Sok 40 ⟨1 + b, f, w⟩ ∧ (⟨1 + b, f, w⟩ : St).m ≤ 9000 := ⟨⟨by decide, by show 1 ≤ 1 + b; omega, by show 1 + b ≤ 200000; omega, f0, w0, bf, bw⟩, by show 1 + b ≤ 9000; omega⟩
    obtain ⟨ss', g', l', e⟩ := push_ok (ns := ns) (p := p6) (T := T) (a := eVar 3) (b := eVar 7) (ρ := ρt T R x1 x4 (some (fq f)) (some (fq w)) (some (sd ⟨1 + b, f, w⟩))) g ok hl (fun S => rfl) (fun S => rfl)
    have e' : c_l_tempo_2_4 (ρt T R x1 x4 (some (fq f)) (some (fq w)) (some (sd ⟨1 + b, f, w⟩))) (Ps ns p6 T ss) = _ := e
    show Ws (c_l_tempo_2_4 (ρt T R x1 x4 (some (fq f)) (some (fq w)) (some (sd ⟨1 + b, f, w⟩))) (Ps ns p6 T ss)) N
    rw [e']
    exact hN _ _ _ _ _ g' l' (h6.mono (by omega))
  by_cases he : ss = []
  · have ie : ss.isEmpty = true := by simpa using he
    have : c_l_tempo_2_1 (ρt T R x1 x4 (some (fq f)) x6 x7) (Ps ns p1 T ss) = .nx (ρt T R x1 x4 (some (fq f)) x6 x7) (Ps ns p1 T ss) := by
      simp only [c_l_tempo_2_1, sIf_eq, bAnd_eq, tTru_eq, eOp_eq, eVar_s, eVar_0, bind_ok, eLst_eq, aNil_eq, List.length_nil, z0, if_true, ps_nenil, ie, truD_bl, Bool.not_true, Bool.false_eq_true, if_false, sb_ok, sNil_eq]
    rw [this]
    exact part f p1 f0 (bf.mono (by decide)) (h1.mono (by omega))
  · have ie : ss.isEmpty = false := by simpa using he
    simp only [c_l_tempo_2_1, sIf_eq, bAnd_eq, tTru_eq, eOp_eq, eVar_s, eVar_0, bind_ok, eLst_eq, aNil_eq, List.length_nil, z0, if_true, ps_nenil, ie, truD_bl, Bool.not_false, eCall_eq, aCons_eq, eC_eq, ws_sb, wp_bind]
    refine wp_draw h1 (by omega) (by decide) (by decide) fun d p2 d0 d1 h2 => ?_
    have s1 := (g.all _ (List.getLast_mem he)).1
    by_cases hd : d = 0
    · simp only [oEq_int2, hd, BEq.rfl, wp_ok, wp_bind, ws_sb, truD_bl, if_true, sAsg_nm, eOp_eq, eVar_s, eVar_0, bind_ok, eNeg_eq, eC_eq, ps_last he, sd2, sb_ok, ws_nx, List.set]
      exact part _ p2 s1.l0 s1.bl (h2.mono (by omega))
    · have hd' : (d == 0) = false := by simpa using hd
      simp only [oEq_int2, hd', wp_ok, wp_bind, ws_sb, truD_bl, Bool.false_eq_true, if_false, sNil_eq, ws_nx]
      exact part f p2 f0 (bf.mono (by decide)) (h2.mono (by omega))
/-- the last ones are taken away while they are as the rest is -/
theorem pops_ok {M : Int} {a c : EF} {ρ : Lc} (ha : ∀ S, a ρ S = .ok (.ob (T.length + 1)) S) (hc : ∀ S, c ρ S = .ok (fq R) S) : ∀ (fuel : Nat) (ss : List St), Gs M ss → ss.length ≤ fuel →
    ∃ ss', Gs M ss' ∧ ss'.length ≤ ss.length ∧ (∀ h : ss' ≠ [], ¬ ((ss'.getLast h).f = R ∧ (ss'.getLast h).l = R)) ∧
      whGo (bAnd (tTru (eOp oNe a (eLst aNil))) (tTru (eOp oEq (eSl (eOp oIx a (eNeg (eC (.int 1)))) (pAt (eC (.int 1))) pNo) (eTup (aCons c (aCons c aNil)))))) (sExpr (ePop a)) fuel ρ (Ps ns p T ss) = .nx ρ (Ps ns p T ss')
  | fuel, ss, g, hl => by
    have z0 : szOk 0 = true := gd_of (by decide)
    have z2 : szOk (0 + 1 + 1) = true := gd_of (by decide)
    by_cases he : ss = []
    · subst he
      refine ⟨[], g, Nat.le_refl _, fun h => absurd rfl h, ?_⟩
      unfold whGo
      have ie : ([] : List St).isEmpty = true := rfl
      simp only [bAnd_eq, tTru_eq, eOp_eq, ha, bind_ok, eLst_eq, aNil_eq, List.length_nil, z0, if_true, ps_nenil, ie, truD_bl, Bool.not_true, Bool.false_eq_true, if_false, sb_ok]
    · have ie : ss.isEmpty = false := by simpa using he
      have sl : ∀ S, oSl (sd (ss.getLast he)) (some 1) none S = .ok (.tup [fq (ss.getLast he).f, fq (ss.getLast he).l]) S := fun S => rfl
      have eq : ∀ S, oEq (.tup [fq (ss.getLast he).f, fq (ss.getLast he).l]) (.tup [fq R, fq R]) S = .ok (.bl (decide ((ss.getLast he).f = R ∧ (ss.getLast he).l = R))) S := fun S => by
        have cc : ∀ a b : Rat, Cn 40 (.tup [fq a, fq b]) := fun a b => by simp only [Cn, Cns, and_true]; exact ⟨cn_fq, cn_fq⟩
        have := oNe_pair (ss.getLast he).f (ss.getLast he).l R R S
        rw [oNe_cn (cc _ _) (cc _ _)] at this
        rw [oEq_cn (cc _ _) (cc _ _)]
        simp only [Res.ok.injEq, D.bl.injEq, and_true, Bool.not_inj_iff] at this
        rw [this]
      by_cases hR : (ss.getLast he).f = R ∧ (ss.getLast he).l = R
      · simp only [hR, and_self, decide_true] at eq
        match fuel, hl with
        | 0, hl => exact absurd (List.length_eq_zero_iff.mp (Nat.le_zero.mp hl)) he
        | fuel + 1, hl =>
          obtain ⟨d, e1⟩ := ePop_at (S := Ps ns p T ss) (ha _) ps_at (by simpa using he)
          rw [pn_set] at e1
          have e2 : (List.map sd ss).dropLast = ss.dropLast.map sd := by rw [List.dropLast_eq_take, List.dropLast_eq_take, List.map_take, List.length_map]
          rw [e2] at e1
          obtain ⟨ss', g', l', n', e3⟩ := pops_ok (M := M) ha hc fuel ss.dropLast g.drop (by simp; omega)
          refine ⟨ss', g', by simp at l'; omega, n', ?_⟩
          unfold whGo
          simp only [bAnd_eq, tTru_eq, eOp_eq, ha, hc, bind_ok, eLst_eq, aNil_eq, List.length_nil, List.length_cons, z0, z2, if_true, ps_nenil, ie, truD_bl, Bool.not_false, eSl_eq, eNeg_eq, eC_eq, ps_last he, pAt_eq, pNo_eq, eTup_eq, aCons_eq, hR, eq, sl, sb_ok, sExpr_eq, e1]
          exact e3
      · refine ⟨ss, g, Nat.le_refl _, fun _ => hR, ?_⟩
        simp only [hR, decide_false] at eq
        unfold whGo
        simp only [bAnd_eq, tTru_eq, eOp_eq, ha, hc, bind_ok, eLst_eq, aNil_eq, List.length_nil, List.length_cons, z0, z2, if_true, ps_nenil, ie, truD_bl, Bool.not_false, eSl_eq, eNeg_eq, eC_eq, ps_last he, pAt_eq, pNo_eq, eTup_eq, aCons_eq, eq, sl, Bool.false_eq_true, if_false, sb_ok]
theorem Gs.sum {M : Int} (g : Gs M ss) (hM : 0 ≤ M) : (ss.map St.m).sum ≤ ss.length * M := by
  have : ∀ l : List St, (∀ s ∈ l, s.m ≤ M) → (l.map St.m).sum ≤ l.length * M := fun l => by
    induction l with
    | nil => intro _; simp
    | cons t l ih =>
      intro h
      have h1 := h t (by simp)
      have h2 := ih (fun s hs => h s (by simp [hs]))
      rw [List.map_cons, List.sum_cons, List.length_cons]
      have : ((l.length + 1 : Nat) : Int) * M = l.length * M + M := by rw [Int.natCast_succ, Int.add_mul, Int.one_mul]
      omega
  exact this ss fun s hs => (g.all s hs).2
theorem Gs.tok {M : Int} (g : Gs M ss) (h24 : ss.length ≤ 24) (hs : (ss.map St.m).sum ≤ 200000) (R0 : 0 < R) (bR : Bq 40 R) (hl : ∀ h : ss ≠ [], ¬ ((ss.getLast h).f = R ∧ (ss.getLast h).l = R)) : Tok 40 ss R :=
  ⟨h24, fun s h => (g.all s h).1, R0, bR, hs, g.adj, hl⟩
/-- a tempo as it is drawn -/
structure Drawn (b : Nat) (M : Int) (n : Nat) (ss : List St) (R : Rat) : Prop where
  gs : Gs M ss
  len : ss.length ≤ n
  r0 : 0 < R
  br : Bq b R
  last : ∀ h : ss ≠ [], ¬ ((ss.getLast h).f = R ∧ (ss.getLast h).l = R)
theorem Drawn.tok {b : Nat} {M : Int} {n : Nat} (d : Drawn b M n ss R) (hb : b ≤ 40) (hM : 0 ≤ M) (hn : n * M ≤ 200000) (h24 : n ≤ 24) : Tok 40 ss R := by
  have l := d.len
  have s := d.gs.sum hM
  have : (ss.length : Int) * M ≤ n * M := Int.mul_le_mul_of_nonneg_right (by omega) hM
  exact d.gs.tok (by omega) (by omega) d.r0 (d.br.mono hb) d.last
theorem wp_tempo (h : Pk p k) (hm : m ≤ 1000) (hk : k + 20 + 12 * m ≤ 1000000000000) (q : ∀ ss R p', Drawn 30 9000 m ss R → Pk p' (k + 20 + 12 * m) → Q (td ss R) (Pn ns p' T)) : Wp (F_l_tempo [.ob 0, .int m] (Pn ns p T)) Q E := by
  have z0 : szOk 0 = true := gd_of (by decide)
  have z2 : szOk (0 + 1 + 1) = true := gd_of (by decide)
  refine wp_run ?_
  show Ws (b_l_tempo [some (.ob 0), some (.int m), none, none, none, none, none, none] (Pn ns p T)) _
  unfold b_l_tempo
  refine ws_seq ?_
  simp only [c_l_tempo_0, sAsg_nm, eCall_eq, aCons_eq, aNil_eq, eVar_0, bind_ok, ws_sb]
  refine wp_above h (by omega) fun R p1 R0 bR h1 => ?_
  simp only [ws_nx, List.set]
  refine ws_seq ?_
  simp only [c_l_tempo_1, sAsg_nm, eLstS_eq, aNil_eq, bind_ok, List.length_nil, z0, if_true, sb_ok, ws_nx, List.set, pn_app, pn_len]
  refine ws_seq ?_
  -- how many
  have g62 : ∀ d : Int, 0 ≤ d → d < m + 1 → gd (-(2 ^ 62) ≤ d ∧ d < 2 ^ 62) = true := fun d a b => gd_of (by omega)
  simp only [c_l_tempo_2, sFor, iRng_eq, aCons_eq, aNil_eq, eCall_eq, eVar_s, eVar_0, bind_ok, eOp_eq, eC_eq, oAdd_int, ws_sb, wp_bind]
  refine wp_draw h1 (by omega) (by omega) (by omega) fun d p2 d0 d1 h2 => ?_
  simp only [wp_ok, wp_bind, ws_sb, g62 d d0 d1, if_true, Itd.size]
  obtain ⟨j, rfl⟩ : ∃ j : Nat, d = j := ⟨d.toNat, (Int.toNat_of_nonneg d0).symm⟩
  refine ws_forGo (n := j) (xs := fun i => .int (0 + (i : Nat))) (fun i ρ S => ∃ x4 x5 x6 x7 ss p', ρ = ρt T R (some (.int m)) x4 x5 x6 x7 ∧ S = Ps ns p' T ss ∧ Gs 9000 ss ∧ ss.length ≤ i ∧ Pk p' (k + 4 + 12 * i)) ?_ ?_ ?_ _ _ _ _ (by simp) (by omega) ⟨none, none, none, none, [], p2, rfl, rfl, .nil, by simp, h2.mono (by omega)⟩
  · intro i ρ S hi _
    rw [Int.toNat_natCast]
    exact isRng 0 j S i hi
  · rintro i ρ S hi ⟨x4, x5, x6, x7, ss, p', rfl, rfl, g, hl, hp⟩
    refine ⟨_, put_nm _ _ _ _, ?_⟩
    simp only [List.set]
    refine tempo_turn hp (by omega) g (by omega) R0 (bR.mono (by decide)) fun y5 y6 y7 ss' p'' g' l' hp' => ?_
    exact ⟨_, _, _, _, ss', p'', rfl, rfl, g', by omega, hp'.mono (by omega)⟩
  · rintro ρ S ⟨x4, x5, x6, x7, ss, p', rfl, rfl, g, hl, hp⟩
    dsimp only
    refine ws_seq ?_
    obtain ⟨ss', g', l', n', e⟩ := pops_ok (M := 9000) (R := R) (ns := ns) (p := p') (T := T) (a := eVar 3) (c := eVar 2) (ρ := ρt T R (some (.int m)) x4 x5 x6 x7) (fun S => rfl) (fun S => rfl) 1000 ss g (by omega)
    have e' : c_l_tempo_3 (ρt T R (some (.int m)) x4 x5 x6 x7) (Ps ns p' T ss) = _ := e
    rw [e']
    simp only [ws_nx, c_l_tempo_4, sRet_eq, eTup_eq, aCons_eq, aNil_eq, eB_eq, eVar_s, eVar_0, bind_ok, cTuple_ob ps_at, List.length_cons, List.length_nil, z2, if_true, sb_ok, ws_rt]
    exact ⟨Pn ns p' T, [.lst (ss'.map sd)], td ss' R, rfl, kp_pen, frz_pl 40 _ pl_td, q _ _ _ ⟨g', by omega, R0, bR, n'⟩ (hp.mono (by omega))⟩
end
end Fx
set_option Elab.async false
set_option linter.all false
set_option maxRecDepth 100000
/-! repr of data, and that it is the same again; sameness -/
namespace DV
open PySem L2
/-! ### the signs of what is shown -/
def Sok' (s : Str) : Prop := ∀ c ∈ s.cps.toList, c < 0x110000
theorem sok_iff {s : Str} : PyData.strOk s = true ↔ Sok' s := by
  unfold PyData.strOk Sok'
  rw [Array.all_eq_true_iff_forall_mem]
  simp [Array.mem_toList_iff]
theorem sok_of (s : String) : Sok' (Str.ofString s) := fun c hc => by
  have : (Str.ofString s).cps.toList = s.toList.map Char.toNat := by
    show (cpsOfBytes 0 0 s.toByteArray.data.toList).toArray.toList = _
    rw [List.toList_toArray, cpsOfBytes_string]
  rw [this] at hc
  obtain ⟨d, _, rfl⟩ := List.mem_map.mp hc
  have := d.valid
  have h2 : d.val.toNat < 0x110000 := by
    rcases this with h | h
    · have : d.val.toNat < 0xd800 := h
      omega
    · exact h.2
  exact h2
theorem sok_app {a b : Str} (ha : Sok' a) (hb : Sok' b) : Sok' (a ++ b) := fun c hc => by
  have : (a ++ b).cps.toList = a.cps.toList ++ b.cps.toList := by
    show (a.cps ++ b.cps).toList = _
    simp
  rw [this] at hc
  rcases List.mem_append.mp hc with h | h
  · exact ha c h
  · exact hb c h
theorem sok_join {sep : Str} (hs : Sok' sep) : ∀ ts : List Str, (∀ t ∈ ts, Sok' t) → Sok' (Str.join sep ts)
  | [], _ => by rw [Str.join.eq_1]; intro c hc; simp [Str.empty] at hc
  | [t], h => by rw [Str.join.eq_2]; exact h t (by simp)
  | t :: u :: r, h => by
    rw [Str.join.eq_3 _ _ _ (fun e => by simp at e)]
    exact sok_app (sok_app (h t (by simp)) hs) (sok_join hs (u :: r) fun x hx => h x (by simp [hx]))
theorem hex_ok (w c : Nat) : ∀ d ∈ (List.replicate w 48 ++ (Nat.toDigits 16 c).map Char.toNat), d < 0x110000 := fun d hd => by
  rcases List.mem_append.mp hd with h | h
  · rw [(List.mem_replicate.mp h).2]; decide
  · obtain ⟨x, _, rfl⟩ := List.mem_map.mp h
    rcases x.valid with h | h
    · have : x.val.toNat < 0xd800 := h
      show x.val.toNat < _
      omega
    · exact h.2
theorem two_ok {a b : Nat} (ha : a < 0x110000) (hb : b < 0x110000) : ∀ d ∈ [a, b], d < 0x110000 := fun d hd => by
  simp at hd; rcases hd with rfl | rfl <;> assumption
theorem reprChar_ok {q c : Nat} (hc : c < 0x110000) : ∀ d ∈ PySem.Builtin.Str.reprChar q c, d < 0x110000 := by
  unfold PySem.Builtin.Str.reprChar
  dsimp only
  split
  · exact two_ok (by decide) hc
  · split
    · exact two_ok (by decide) (by decide)
    · split
      · exact two_ok (by decide) (by decide)
      · split
        · exact two_ok (by decide) (by decide)
        · split
          · intro d hd; simp at hd; rw [hd]; exact hc
          · have app : ∀ {a b : Nat} {w : Nat}, a < 0x110000 → b < 0x110000 → ∀ d ∈ [a, b] ++ (List.replicate w 48 ++ (Nat.toDigits 16 c).map Char.toNat), d < 0x110000 := fun ha hb d hd => by
              rcases List.mem_append.mp hd with h | h
              · exact two_ok ha hb d h
              · exact hex_ok _ _ d h
            split
            · exact app (by decide) (by decide)
            · split
              · exact app (by decide) (by decide)
              · exact app (by decide) (by decide)
theorem sok_repr {x : Str} (h : Sok' x) : Sok' (reprText x) := by
  have hq : reprQuote x < 0x110000 := by unfold reprQuote; split <;> decide
  intro c hc
  unfold reprText at hc
  rw [← Array.foldl_toList] at hc
  simp only [Array.toList_push] at hc
  have main : ∀ (l : List Nat) (acc : Array Nat), (∀ c ∈ l, c < 0x110000) → (∀ c ∈ acc.toList, c < 0x110000) → ∀ c ∈ (l.foldl (fun out c => out ++ (PySem.Builtin.Str.reprChar (reprQuote x) c).toArray) acc).toList, c < 0x110000 := by
    intro l
    induction l with
    | nil => intro acc _ h; exact h
    | cons d l ih =>
      intro acc hl ha
      refine ih _ (fun c hc => hl c (by simp [hc])) fun c hc => ?_
      simp only [Array.toList_append] at hc
      rcases List.mem_append.mp hc with h | h
      · exact ha c h
      · exact reprChar_ok (hl d (by simp)) c (by simpa using h)
  rcases List.mem_append.mp hc with h' | h'
  · exact main x.cps.toList #[reprQuote x] h (by intro c hc; simp at hc; rw [hc]; exact hq) c h'
  · simp at h'; rw [h']; exact hq
/-! ### data that are shown: whole numbers of at most 13 figures -/
mutual
def Rn : Nat → D → Prop
  | 0, _ => False
  | k + 1, .tup xs => Rns k xs
  | k + 1, .lst xs => Rns k xs
  | _ + 1, .non => True
  | _ + 1, .bl _ => True
  | _ + 1, .int i => i.natAbs < 10 ^ 13
  | _ + 1, .str s => PyData.strOk s = true
  | _ + 1, _ => False
def Rns : Nat → List D → Prop
  | _, [] => True
  | 0, _ :: _ => False
  | k + 1, d :: ds => Rn k d ∧ Rns (k + 1) ds
end
theorem rns_iff {k : Nat} : ∀ {ds : List D}, Rns (k + 1) ds ↔ ∀ d ∈ ds, Rn k d
  | [] => by simp [Rns]
  | d :: ds => by simp [Rns, rns_iff (k := k) (ds := ds)]
mutual
def wD : D → Nat
  | .int _ => 44
  | .str s => s.cps.size
  | .tup xs => wDs xs
  | .lst xs => wDs xs
  | _ => 0
def wDs : List D → Nat
  | [] => 0
  | d :: ds => wD d + 1 + wDs ds
end
theorem wDs_le {w : Nat} : ∀ {ds : List D}, (∀ d ∈ ds, wD d ≤ w) → wDs ds ≤ ds.length * (w + 1)
  | [], _ => by simp [wDs]
  | d :: ds, h => by
    have h1 := h d (by simp)
    have h2 := wDs_le (w := w) (ds := ds) fun x hx => h x (by simp [hx])
    rw [wDs, List.length_cons, Nat.succ_mul]
    omega
mutual
theorem Rn.up : ∀ {k : Nat} {d : D}, Rn k d → Rn (k + 1) d
  | 0, _, h => by simp [Rn] at h
  | k + 1, .tup xs, h => by simp only [Rn] at h ⊢; exact Rns.up h
  | k + 1, .lst xs, h => by simp only [Rn] at h ⊢; exact Rns.up h
  | _ + 1, .non, _ => by simp [Rn]
  | _ + 1, .bl _, _ => by simp [Rn]
  | _ + 1, .int _, h => by simp only [Rn] at h ⊢; exact h
  | _ + 1, .str _, h => by simp only [Rn] at h ⊢; exact h
  | _ + 1, .ob _, h => by simp [Rn] at h
  | _ + 1, .dct _, h => by simp [Rn] at h
  | _ + 1, .dtt _, h => by simp [Rn] at h
  | _ + 1, .ins _ _ _, h => by simp [Rn] at h
  | _ + 1, .exc _, h => by simp [Rn] at h
  | _ + 1, .ro _, h => by simp [Rn] at h
  | _ + 1, .gl _, h => by simp [Rn] at h
theorem Rns.up : ∀ {k : Nat} {ds : List D}, Rns k ds → Rns (k + 1) ds
  | _, [], _ => by simp [Rns]
  | 0, _ :: _, h => by simp [Rns] at h
  | k + 1, d :: ds, h => by
    simp only [Rns] at h ⊢
    exact ⟨h.1.up, h.2.up⟩
end
theorem Rn.le {d : D} {k j : Nat} (h : Rn k d) (hj : k ≤ j) : Rn j d := by
  induction hj with
  | refl => exact h
  | step _ ih => exact ih.up
mutual
/-- as the library's data -/
def pyD : D → PyData
  | .tup xs => .tuple (pyDs xs)
  | .lst xs => .list (pyDs xs)
  | .bl b => .bool b
  | .int i => .int i
  | .str s => .str s
  | _ => .none
def pyDs : List D → List PyData
  | [] => []
  | d :: ds => pyD d :: pyDs ds
end
theorem log_lt {i : Int} (h : i.natAbs < 10 ^ 13) : i.natAbs.log2 < 44 := by
  by_cases h0 : i.natAbs = 0
  · rw [h0]; decide
  · exact (Nat.log2_lt h0).mpr (by omega)
mutual
theorem rn_py : ∀ {k : Nat} {d : D}, Rn k d → (∀ S, pyOf k S d = some (pyD d)) ∧ (pyD d).showable = true ∧ (pyD d).hasDict = false ∧ (pyD d).depth ≤ k ∧ (pyD d).leavesShort 14 = true ∧ (pyD d).weight ≤ wD d ∧ (pyD d).canLay0 = true ∧ Sok' (pyD d).shown
  | 0, _, h => by simp [Rn] at h
  | k + 1, .tup xs, h => by
    simp only [Rn] at h
    obtain ⟨h1, h2, h3, h4, h5, h6, h7, h8⟩ := rns_py h
    refine ⟨fun S => by simp only [pyOf, h1 S, Option.map_some, pyD], by simpa [pyD, PyData.showable] using h2, by simpa [pyD, PyData.hasDict] using h3, by simp only [pyD, PyData.depth]; omega, by simpa [pyD, PyData.leavesShort] using h5, by simpa [pyD, PyData.weight, wD] using h6, by simpa [pyD, PyData.canLay0] using h7, ?_⟩
    simp only [pyD]
    rw [PyData.shown_tuple]
    refine sok_app (sok_app (sok_of "(") (sok_join (sok_of ", ") _ h8)) ?_
    split <;> exact sok_of _
  | k + 1, .lst xs, h => by
    simp only [Rn] at h
    obtain ⟨h1, h2, h3, h4, h5, h6, h7, h8⟩ := rns_py h
    refine ⟨fun S => by simp only [pyOf, h1 S, Option.map_some, pyD], by simpa [pyD, PyData.showable] using h2, by simpa [pyD, PyData.hasDict] using h3, by simp only [pyD, PyData.depth]; omega, by simpa [pyD, PyData.leavesShort] using h5, by simpa [pyD, PyData.weight, wD] using h6, by simpa [pyD, PyData.canLay0] using h7, ?_⟩
    simp only [pyD]
    rw [PyData.shown_list]
    exact sok_app (sok_app (sok_of "[") (sok_join (sok_of ", ") _ h8)) (sok_of "]")
  | _ + 1, .non, _ => ⟨fun S => by simp [pyOf, pyD], by simp [pyD, PyData.showable], by simp [pyD, PyData.hasDict], by simp [pyD, PyData.depth], by simp [pyD, PyData.leavesShort], by simp [pyD, PyData.weight], by simp [pyD, PyData.canLay0], sok_of "None"⟩
  | _ + 1, .bl b, _ => ⟨fun S => by simp [pyOf, pyD], by simp [pyD, PyData.showable], by simp [pyD, PyData.hasDict], by simp [pyD, PyData.depth], by simp [pyD, PyData.leavesShort], by simp [pyD, PyData.weight], by simp [pyD, PyData.canLay0], by cases b; exact sok_of "False"; exact sok_of "True"⟩
  | _ + 1, .int i, h => by
    simp only [Rn] at h
    have lg := log_lt h
    refine ⟨fun S => by simp [pyOf, pyD], by simp [pyD, PyData.showable]; omega, by simp [pyD, PyData.hasDict], by simp [pyD, PyData.depth], ?_, ?_, by simp [pyD, PyData.canLay0], by simp only [pyD, PyData.shown]; exact sok_of _⟩
    · have e := int_text_length_le10 (k := 13) (by decide) h
      simp only [pyD, PyData.leavesShort, decide_eq_true_eq, PyData.shown, ofString_length]
      exact e
    · simp only [pyD, PyData.weight, wD]
      split <;> omega
  | _ + 1, .str s, h => by
    simp only [Rn] at h
    have sk := sok_iff.mp h
    refine ⟨fun S => by simp [pyOf, pyD], by simp [pyD, PyData.showable], by simp [pyD, PyData.hasDict], by simp [pyD, PyData.depth], ?_, by simp [pyD, PyData.weight, wD], by simpa [pyD, PyData.canLay0] using h, by simp only [pyD, PyData.shown]; exact sok_repr sk⟩
    simp only [pyD, PyData.leavesShort, List.all_eq_true, decide_eq_true_eq]
    intro c hc
    have := sk c hc
    have : (16 : Nat) ^ 8 = 4294967296 := by decide
    omega
  | _ + 1, .ob _, h => by simp [Rn] at h
  | _ + 1, .dct _, h => by simp [Rn] at h
  | _ + 1, .dtt _, h => by simp [Rn] at h
  | _ + 1, .ins _ _ _, h => by simp [Rn] at h
  | _ + 1, .exc _, h => by simp [Rn] at h
  | _ + 1, .ro _, h => by simp [Rn] at h
  | _ + 1, .gl _, h => by simp [Rn] at h
theorem rns_py : ∀ {k : Nat} {ds : List D}, Rns k ds → (∀ S, pyOf.pyAll (pyOf k S) ds = some (pyDs ds)) ∧ PyData.showableAll (pyDs ds) = true ∧ PyData.hasDictAll (pyDs ds) = false ∧ PyData.depthAll (pyDs ds) ≤ k ∧ PyData.leavesShortAll 14 (pyDs ds) = true ∧ PyData.weightAll (pyDs ds) ≤ wDs ds ∧ PyData.canLayAll0 (pyDs ds) = true ∧ ∀ t ∈ PyData.shownAll (pyDs ds), Sok' t
  | _, [], _ => ⟨fun S => by simp [pyOf.pyAll, pyDs], by simp [pyDs, PyData.showableAll], by simp [pyDs, PyData.hasDictAll], by simp [pyDs, PyData.depthAll], by simp [pyDs, PyData.leavesShortAll], by simp [pyDs, PyData.weightAll], by simp [pyDs, PyData.canLayAll0], by simp [pyDs, PyData.shownAll]⟩
  | 0, _ :: _, h => by simp [Rns] at h
  | k + 1, d :: ds, h => by
    simp only [Rns] at h
    obtain ⟨a1, a2, a3, a4, a5, a6, a7, a8⟩ := rn_py h.1.up
    obtain ⟨_, _, _, a4', _⟩ := rn_py h.1
    obtain ⟨b1, b2, b3, b4, b5, b6, b7, b8⟩ := rns_py h.2
    refine ⟨fun S => by simp only [pyOf.pyAll, a1 S, b1 S, pyDs], by simp [pyDs, PyData.showableAll, a2, b2], by simp [pyDs, PyData.hasDictAll, a3, b3], by simp only [pyDs, PyData.depthAll]; omega, by simp [pyDs, PyData.leavesShortAll, a5, b5], by simp only [pyDs, PyData.weightAll, wDs]; omega, by simp [pyDs, PyData.canLayAll0, a7, b7], ?_⟩
    intro t ht
    simp only [pyDs, PyData.shownAll, List.mem_cons] at ht
    rcases ht with rfl | ht
    · exact a8
    · exact b8 t ht
end
/-- repr of data -/
theorem repr_ok {d : D} (h : Rn 40 d) (hw : wD d ≤ 60000) (S : Sto) : cRepr [d] S = .ok (.str (pyD d).shown) S := by
  obtain ⟨h1, h2, h3, h4, h5, h6, h7, h8⟩ := rn_py h
  have l := PyData.shown_le 14 (by decide) (pyD d) h5
  have g : reprOk (pyD d) = true := gd_of ⟨h2, h3, by omega, by
    have : (14 + 2) * (pyD d).weight ≤ 16 * 60000 := Nat.mul_le_mul_left 16 (by omega)
    omega⟩
  simp only [cRepr, h1 S, g, if_true]
theorem repr_str {d : D} (h : Rn 40 d) : PyData.strOk (pyD d).shown = true := sok_iff.mpr (rn_py h).2.2.2.2.2.2.2
theorem oEq_str {s : Str} (h : PyData.strOk s = true) (S : Sto) : oEq (.str s) (.str s) S = .ok (.bl true) S := by
  rw [oEq_cn (by simpa [Cn] using h) (by simpa [Cn] using h), gd_of rfl]
theorem oNe_str {s : Str} (h : PyData.strOk s = true) (S : Sto) : oNe (.str s) (.str s) S = .ok (.bl false) S := by
  rw [oNe_cn (by simpa [Cn] using h) (by simpa [Cn] using h), gd_of rfl]; rfl
/-- a comprehension over what is known to be iterated, whose element changes nothing -/
theorem lc_at {a : IF} {it : Itd} {t : Tg} {e : EF} {own : List Nat} {ρ : Lc} {S S1 : Sto} {n : Nat} {xs : Nat → D} {f : Nat → D} (ha : a ρ S = .ok it S1) (hsz : it.size S1 = n) (hat : ∀ E i, i ≤ n → it.at' i (S1 ++ E) = some (if i < n then some (xs i) else none))
    (hn : n ≤ 1000000) (hf : ∀ i, i < n → Pl 38 (f i))
    (step : ∀ i, i < n → ∀ S2, ∃ ρ1, t.put (xs i) (wipeD ρ own) S2 = some ρ1 ∧ e ρ1 S2 = .ok (f i) S2) :
    eLc a t cYes e own ρ S = .ok (.lst ((List.range n).map f)) S1 := by
  refine eq_of_wp (wp_lc (n := n) (xs := xs) ha (fun i acc T => T = S1 ∧ i ≤ n ∧ acc = (List.range i).map f) hsz ?_ hn (by simp) ?_ ?_ ?_)
  · rintro i acc T hi ⟨rfl, _⟩
    exact hat _ i hi
  · rintro i acc T ⟨rfl, hi, rfl⟩
    refine ⟨.rfl', by simp, pls_iff.mpr ?_⟩
    intro d hd
    obtain ⟨j, hj, rfl⟩ := List.mem_map.mp hd
    exact hf j (by have := List.mem_range.mp hj; omega)
  · rintro i acc T hi ⟨rfl, _, rfl⟩
    obtain ⟨ρ1, e1, e2⟩ := step i hi (T ++ [.lst ((List.range i).map f)])
    refine ⟨ρ1, e1, ?_⟩
    rw [cYes_eq]
    refine ⟨T, rfl, rfl, fun _ => ?_, fun h => by cases h⟩
    rw [e2]
    refine ⟨T, rfl, rfl, rfl, by omega, ?_⟩
    rw [List.range_succ, List.map_append]; rfl
  · rintro acc T ⟨rfl, _, rfl⟩
    exact ⟨rfl, rfl⟩
end DV
namespace Fx
open PySem L2 DV
mutual
/-- the same, so many layers deep -/
def Sm : Nat → D → Prop
  | 0, _ => False
  | k + 1, .tup xs => xs.length ≤ 1000000 ∧ Sms k xs
  | k + 1, .lst xs => xs.length ≤ 1000000 ∧ Sms k xs
  | _ + 1, .non => True
  | _ + 1, .bl _ => True
  | _ + 1, .int _ => True
  | _ + 1, .str s => PyData.strOk s = true
  | _ + 1, _ => False
def Sms : Nat → List D → Prop
  | _, [] => True
  | 0, _ :: _ => False
  | k + 1, d :: ds => Sm k d ∧ Sms (k + 1) ds
end
theorem sms_iff {k : Nat} : ∀ {ds : List D}, Sms (k + 1) ds ↔ ∀ d ∈ ds, Sm k d
  | [] => by simp [Sms]
  | d :: ds => by simp [Sms, sms_iff (k := k) (ds := ds)]
mutual
theorem Sm.up : ∀ {k : Nat} {d : D}, Sm k d → Sm (k + 1) d
  | 0, _, h => by simp [Sm] at h
  | k + 1, .tup xs, h => by simp only [Sm] at h ⊢; exact ⟨h.1, Sms.up h.2⟩
  | k + 1, .lst xs, h => by simp only [Sm] at h ⊢; exact ⟨h.1, Sms.up h.2⟩
  | _ + 1, .non, _ => by simp [Sm]
  | _ + 1, .bl _, _ => by simp [Sm]
  | _ + 1, .int _, _ => by simp [Sm]
  | _ + 1, .str _, h => by simp only [Sm] at h ⊢; exact h
  | _ + 1, .ob _, h => by simp [Sm] at h
  | _ + 1, .dct _, h => by simp [Sm] at h
  | _ + 1, .dtt _, h => by simp [Sm] at h
  | _ + 1, .ins _ _ _, h => by simp [Sm] at h
  | _ + 1, .exc _, h => by simp [Sm] at h
  | _ + 1, .ro _, h => by simp [Sm] at h
  | _ + 1, .gl _, h => by simp [Sm] at h
theorem Sms.up : ∀ {k : Nat} {ds : List D}, Sms k ds → Sms (k + 1) ds
  | _, [], _ => by simp [Sms]
  | 0, _ :: _, h => by simp [Sms] at h
  | k + 1, d :: ds, h => by
    simp only [Sms] at h ⊢
    exact ⟨h.1.up, h.2.up⟩
end
theorem Sm.le {d : D} {k j : Nat} (h : Sm k d) (hj : k ≤ j) : Sm j d := by
  induction hj with
  | refl => exact h
  | step _ ih => exact ih.up
theorem all_bl {n : Nat} {S : Sto} : cAll [.lst ((List.range n).map fun _ => D.bl true)] S = .ok (.bl true) S := by
  have := allBl_map (List.range n) (fun _ => true)
  simp only [cAll, lstOf_lst, this]
  simp
theorem same_ok : ∀ (k : Nat) {d : D}, Sm k d → ∀ S, R_l_same k [d, d] S = .ok (.bl true) S
  | 0, d, h, S => by simp [Sm] at h
  | k + 1, d, h, S => by
    have ih := fun (x : D) (hx : Sm k x) S => same_ok k hx S
    have each : ∀ xs : List D, Sms k xs → ∀ i, i < xs.length → Sm k (xs[i]?.getD .non) := by
      intro xs hs i hi
      match k, hs with
      | 0, hs =>
        match xs, hs with
        | [], _ => simp at hi
        | _ :: _, hs => simp [Sms] at hs
      | k + 1, hs =>
        have hm : Sm k (xs[i]?.getD .non) := by
          rw [List.getElem?_eq_getElem hi]
          exact sms_iff.mp hs _ (List.getElem_mem hi)
        exact hm.up
    show runF 4 2 (b_l_same (R_l_same k)) [d, d] S = _
    refine run_eq0 ?_ (by simp [Pl])
    cases d with
    | non => simp [b_l_same, sSeq, c_l_same_0, c_l_same_1]
    | bl b => cases b <;> simp [b_l_same, sSeq, c_l_same_0, c_l_same_1, c_l_same_2, c_l_same_3, c_l_same_4]
    | int i => simp [b_l_same, sSeq, c_l_same_0, c_l_same_1, c_l_same_2, c_l_same_3, c_l_same_4]
    | str s => 
      simp only [Sm] at h
      simp [b_l_same, sSeq, c_l_same_0, c_l_same_1, c_l_same_2, c_l_same_3, c_l_same_4, oEq_str h]
    | tup xs =>
      simp only [Sm] at h
      have lc := fun S => lc_at (a := iZip (aCons (eVar 0) (aCons (eVar 1) aNil))) (t := .tp [(.nm 2), (.nm 3)]) (e := eCall (R_l_same k) (aCons (eVar 2) (aCons (eVar 3) aNil))) (own := [2, 3]) (ρ := [some (.tup xs), some (.tup xs), none, none]) (S := S) (S1 := S) (it := .zipT xs xs) (n := xs.length) (xs := fun i => .tup [xs[i]?.getD .non, xs[i]?.getD .non]) (f := fun _ => .bl true) (by simp) rfl (fun E i hi => isZipT xs xs _ rfl i hi) h.1 (fun i hi => by simp [Pl]) (fun i hi S2 => by
        refine ⟨[some (.tup xs), some (.tup xs), some (xs[i]?.getD .non), some (xs[i]?.getD .non)], by simp [wipeD], ?_⟩
        have := ih _ (each xs h.2 i hi) S2
        simp only [eCall_eq, aCons_eq, aNil_eq, eVar_s, eVar_0, bind_ok, this])
      unfold b_l_same
      refine seq_rt ?_ _
      have := lc S
      simp [c_l_same_0, sSeq, this, all_bl]
    | lst xs =>
      simp only [Sm] at h
      have lc := fun S => lc_at (a := iZip (aCons (eVar 0) (aCons (eVar 1) aNil))) (t := .tp [(.nm 2), (.nm 3)]) (e := eCall (R_l_same k) (aCons (eVar 2) (aCons (eVar 3) aNil))) (own := [2, 3]) (ρ := [some (.lst xs), some (.lst xs), none, none]) (S := S) (S1 := S) (it := .zipV xs xs) (n := xs.length) (xs := fun i => .tup [xs[i]?.getD .non, xs[i]?.getD .non]) (f := fun _ => .bl true) (by simp) rfl (fun E i hi => isZipV xs xs _ rfl i hi) h.1 (fun i hi => by simp [Pl]) (fun i hi S2 => by
        refine ⟨[some (.lst xs), some (.lst xs), some (xs[i]?.getD .non), some (xs[i]?.getD .non)], by simp [wipeD], ?_⟩
        have := ih _ (each xs h.2 i hi) S2
        simp only [eCall_eq, aCons_eq, aNil_eq, eVar_s, eVar_0, bind_ok, this])
      unfold b_l_same
      refine seq_rt ?_ _
      have := lc S
      simp [c_l_same_0, sSeq, this, all_bl]
    | _ => simp [Sm] at h
end Fx
set_option Elab.async false
set_option linter.all false
set_option maxRecDepth 100000
set_option exponentiation.threshold 20000
/-! the laws' own reckoning of tempos -/
namespace Fx
open PySem L2 DV
section
variable {B : Nat} {s : St} {ss : List St} {r p x : Rat} {S : Sto} {n m : Nat} {k w : Int}
/-- what a stretch's line tells at half so many steps -/
def ln2 (s : St) (w : Int) : Rat := s.f + (s.l - s.f) * Rat.divInt w (2 * s.m)
theorem ln2_len (h : Sok B s) (k : Int) : ln2 s (2 * k + 1) = len s k := by
  have m0 := h.m0
  unfold ln2 len rise
  rw [divInt_div]
  simp only [Rat.intCast_add, Rat.intCast_mul]
  grind
theorem ln2_tot (h : Sok B s) (k : Int) : (k : Rat) * ln2 s k = tot s k := by
  have m0 := h.m0
  unfold ln2 tot rise
  rw [divInt_div]
  simp only [Rat.intCast_mul]
  grind
theorem Bq_ln2 (h : Sok B s) (hw : w.natAbs < 2 ^ 20) : Bq (3 * B + 30) (ln2 s w) := by
  have m1 := h.m1
  have m2 := h.m2
  exact (Bq_add h.bf (Bq_mul (Bq_sub h.bl h.bf) (Bq_divInt (n := 20) (by omega) hw (by omega)))).mono (by omega)
theorem l_line_ok (h : Sok B s) (hw : w.natAbs < 2 ^ 20) (S : Sto) : F_l_line [sd s, .int w] S = .ok (fq (ln2 s w)) S := by
  have bb := h.bb
  have m1 := h.m1
  have m2 := h.m2
  have e1 := fun S => l_sub_ok h.bl h.bf (by omega) S
  have e2 := fun S => l_low_ok (a := w) (b := 2 * s.m) S (by omega) (pow_mono hw (by decide)) (pow_mono (n := 20) (by omega) (by decide))
  have bd := Bq_divInt (n := 20) (a := w) (b := 2 * s.m) (by omega) hw (by omega)
  have e3 := fun S => l_mul_ok (Bq_sub h.bl h.bf) bd (by omega) S
  have e4 := fun S => l_add_ok h.bf (Bq_mul (Bq_sub h.bl h.bf) bd) (by omega) S
  have g : mulOk 2 s.m = true := mulOk_of (a := 20) (b := 20) (by decide) (by omega) (by decide)
  unfold F_l_line b_l_line
  refine run_eq0 ?_ pl_fq
  simp [c_l_line_0, sd0, sd1, sd2, e1, e2, e3, e4, g, ln2]
theorem td0 (S : Sto) : oIx (td ss r) (.int 0) S = .ok (.tup (ss.map sd)) S := rfl
theorem td1 (S : Sto) : oIx (td ss r) (.int 1) S = .ok (fq r) S := rfl
/-- the length of a step, as the laws reckon it -/
theorem l_length_ok (h : Tok B ss r) (h0 : 0 ≤ k) (hk : k < 2 ^ 40) (S : Sto) : F_l_length [td ss r, .int k] S = .ok (fq (le ss r k)) S := by
  refine eq_of_wp (wp_run ?_)
  show Ws (b_l_length [some (td ss r), some (.int k), none] S) _
  unfold b_l_length
  refine ws_seq ?_
  refine ws_forV (qs := ss) (g := sd) (it := .tup (ss.map sd)) (S1 := S) (by simp [td0]) (.inl rfl) (fun i ρ S' => S' = S ∧ sm (ss.take i) ≤ k ∧ ∃ y, ρ = [some (td ss r), some (.int (k - sm (ss.take i))), y]) ⟨rfl, by simpa using h0, none, by simp⟩ ?_ ?_
  · rintro i hi ρ S' ⟨rfl, hle, y5, rfl⟩
    have ok := h.all _ (List.getElem_mem hi)
    have m2 := ok.m2
    refine ⟨_, put_nm _ _ _ _, ?_⟩
    simp only [List.set]
    by_cases hk' : k < sm (ss.take (i + 1))
    · have hk2 := hk'
      rw [sm_take_succ hi] at hk2
      have e2 := fun S => l_line_ok ok (w := 2 * (k - sm (ss.take i)) + 1) (by omega) S
      rw [ln2_len ok, ← le_in (r := r) hi h.all hle hk'] at e2
      have g : mulOk 2 (k - sm (ss.take i)) = true := mulOk_of (a := 20) (b := 20) (by decide) (by omega) (by decide)
      have : c_l_length_0_0 [some (td ss r), some (.int (k - sm (ss.take i))), some (sd ss[i])] S' = .rt (fq (le ss r k)) S' := by
        have lt : k - sm (ss.take i) < ss[i].m := by omega
        simp [c_l_length_0_0, sd0, lt, g, e2]
      rw [ws_seq_eq, this]
      exact end_pure0 (E := nE) pl_fq ⟨rfl, rfl⟩
    · have hk2 := hk'
      rw [sm_take_succ hi] at hk2
      have lt : ¬ k - sm (ss.take i) < ss[i].m := by omega
      refine ws_step (ρ' := [some (td ss r), some (.int (k - sm (ss.take i))), some (sd ss[i])]) (S' := S') (by simp [c_l_length_0_0, sd0, lt]) ?_
      have : c_l_length_0_1 [some (td ss r), some (.int (k - sm (ss.take i))), some (sd ss[i])] S' = .nx [some (td ss r), some (.int (k - sm (ss.take (i + 1)))), some (sd ss[i])] S' := by
        have e : k - sm (ss.take i) - ss[i].m = k - sm (ss.take (i + 1)) := by rw [sm_take_succ hi]; omega
        simp [c_l_length_0_1, sd0, e]
      rw [this]
      exact ⟨rfl, by omega, _, rfl⟩
  · rintro ρ S' ⟨rfl, hle, y5, rfl⟩
    rw [List.take_length] at hle
    have lo := le_out (r := r) h.all hle
    have e : c_l_length_1 [some (td ss r), some (.int (k - sm (ss.take ss.length))), y5] S' = .rt (fq (le ss r k)) S' := by
      simp only [c_l_length_1, sRet_eq, eOp_eq, eVar_0, eC_eq, bind_ok, td1, sb_ok, lo]
    dsimp only
    rw [e]
    exact end_pure0 (E := nE) pl_fq ⟨rfl, rfl⟩
/-- the part of a step -/
theorem part_eq (p : Rat) : Rat.divInt (p.num % (p.den : Int)) (p.den : Int) = p - (p.floor : Rat) := by
  rw [divInt_div]
  refine div_of ?_ (by have := den_pos p; grind)
  have d := num_den p
  have : p.num % (p.den : Int) = p.num - (p.den : Int) * p.floor := by rw [Rat.floor_def, Int.emod_def]
  rw [this]
  simp only [Rat.intCast_sub, Rat.intCast_mul]
  grind
theorem Bq_part (hp : Bq n p) : Bq n (p - (p.floor : Rat)) := by
  rw [← part_eq]
  have pd := p.den_pos
  have m0 := Int.emod_nonneg p.num (show (p.den : Int) ≠ 0 by omega)
  have m1 := Int.emod_lt_of_pos p.num (show (0 : Int) < p.den by omega)
  have d : (p.den : Int).natAbs < 2 ^ n := by rw [den_abs]; exact hp.2
  exact Bq_divInt (by omega) (by omega) d
theorem part_ok (hp : Bq n p) (hn : n ≤ 13000) (S : Sto) : F_l_low [.int (p.num % (p.den : Int)), .int (p.den : Int)] S = .ok (fq (p - (p.floor : Rat))) S := by
  have pd := p.den_pos
  have m0 := Int.emod_nonneg p.num (show (p.den : Int) ≠ 0 by omega)
  have m1 := Int.emod_lt_of_pos p.num (show (0 : Int) < p.den by omega)
  have d : (p.den : Int).natAbs < 2 ^ n := by rw [den_abs]; exact hp.2
  rw [l_low_ok S (by omega) (pow_mono (show (p.num % (p.den : Int)).natAbs < 2 ^ n by omega) hn) (pow_mono d hn), part_eq]
theorem whole_ok (hp : Bq n p) (hn : n ≤ 13000) : divOk p.num p.den = true ∧ Int.fdiv p.num (p.den : Int) = p.floor := by
  refine ⟨divOk_any (den_ne p) (pow_mono hp.1 hn), ?_⟩
  rw [Int.fdiv_eq_ediv_of_nonneg _ (Int.natCast_nonneg _), Rat.floor_def]
theorem mo_part : ∀ {ss : List St} {k : Int} {t : Rat}, (∀ s ∈ ss, Sok B s) → 0 ≤ k → 0 ≤ t → t < 1 → mo ss r ((k : Rat) + t) = mo ss r (k : Rat) + t * le ss r k
  | [], k, t, _, _, _, _ => by
    show ((k : Rat) + t) * r = (k : Rat) * r + t * r
    grind
  | s :: ss, k, t, h, h0, t0, t1 => by
    have hs := h s (by simp)
    have h' : ∀ s ∈ ss, Sok B s := fun s hs => h s (by simp [hs])
    unfold mo le
    by_cases hk : k < s.m
    · have hk2 : ((k + 1 : Int) : Rat) ≤ (s.m : Rat) := by rw [cle]; omega
      have i1 : (k : Rat) < (s.m : Rat) := by rw [clt]; exact hk
      have i2 : (k : Rat) + t < (s.m : Rat) := by grind
      rw [if_pos hk, if_pos i1, mw_cast s k, if_pos i2]
      have hf : ((k : Rat) + t).floor = k := fl_eq (by grind) (by grind)
      unfold mw
      rw [hf]
      grind
    · have hk2 : (s.m : Rat) ≤ (k : Rat) := by rw [cle]; omega
      have i1 : ¬ (k : Rat) < (s.m : Rat) := by rw [clt]; exact hk
      have i2 : ¬ (k : Rat) + t < (s.m : Rat) := by grind
      rw [if_neg hk, if_neg i1, if_neg i2]
      have ih := mo_part (ss := ss) (k := k - s.m) (t := t) h' (by omega) t0 t1
      have e1 : (k : Rat) + t - (s.m : Rat) = ((k - s.m : Int) : Rat) + t := by grind
      have e2 : (k : Rat) - (s.m : Rat) = ((k - s.m : Int) : Rat) := by grind
      rw [e1, e2, ih]
      grind
theorem mo_floor (h : ∀ s ∈ ss, Sok B s) (h0 : 0 ≤ p) : mo ss r p = mo ss r (p.floor : Rat) + (p - (p.floor : Rat)) * le ss r p.floor := by
  have a := Rat.floor_le p
  have b := Rat.lt_floor_add_one p
  have := mo_part (r := r) (t := p - (p.floor : Rat)) h (fl_nonneg h0) (by grind) (by grind)
  rw [show (p.floor : Rat) + (p - (p.floor : Rat)) = p by grind] at this
  exact this
/-- a moment, added up step by step -/
theorem l_added_ok (h : Tok B ss r) (hp : Bq n p) (h0 : 0 ≤ p) (hf : p.floor < 2 ^ 17) (hn : n + 54 * B + 1600 ≤ 13000) (S : Sto) : F_l_added [td ss r, fq p] S = .ok (fq (mo ss r p)) S := by
  have f0 := fl_nonneg h0
  obtain ⟨w1, w2⟩ := whole_ok hp (by omega)
  obtain ⟨j, hj⟩ : ∃ j : Nat, p.floor = j := ⟨p.floor.toNat, (Int.toNat_of_nonneg f0).symm⟩
  have bi : ∀ i : Int, 0 ≤ i → i ≤ j → Bq 18 (i : Rat) := fun i a b => Bq_int (by omega) (by decide)
  have z2 : szOk (0 + 1 + 1) = true := gd_of (by decide)
  refine eq_of_wp (wp_run ?_)
  show Ws (b_l_added [some (td ss r), some (fq p), none, none, none] S) _
  unfold b_l_added
  refine ws_step (ρ' := [some (td ss r), some (fq p), some (fq 0), some (.int j), none]) (S' := S) (by
    simp only [fq, c_l_added_0, sPar_eq, aCons_eq, aNil_eq, eTup_eq, eC_eq, bind_ok, List.length_cons, List.length_nil, z2, if_true, eOp_eq, eVar_s, eVar_0, oIx_tup, atI_0, atI_1, List.getElem?_cons_zero, List.getElem?_cons_succ, oDiv_int _ w1, w2, hj, sb_ok, List.set]
    rfl) ?_
  refine ws_seq ?_
  have g62 : gd (-(2 ^ 62) ≤ (j : Int) ∧ (j : Int) < 2 ^ 62) = true := gd_of (by omega)
  refine ws_forR (lo := 0) (n := j) (S1 := S) (by simp only [iRng_eq, aCons_eq, aNil_eq, eVar_s, eVar_0, bind_ok, g62, if_true, Int.toNat_natCast]) (fun i ρ S' => S' = S ∧ ∃ y, ρ = [some (td ss r), some (fq p), some (fq (mo ss r ((i : Int) : Rat))), some (.int j), y]) ⟨rfl, none, by
    have : mo ss r (((0 : Nat) : Int) : Rat) = 0 := mo_zero h.all
    rw [this]⟩ ?_ ?_
  · rintro i hi ρ S' ⟨rfl, y, rfl⟩
    refine ⟨_, put_nm _ _ _ _, ?_⟩
    have e1 := fun S => l_length_ok h (k := (i : Int)) (by omega) (by omega) S
    have e2 := fun S => l_add_ok (Bq_mo h (bi (i : Int) (by omega) (by omega)) (by
      have : ((0 : Int) : Rat) ≤ ((i : Int) : Rat) := by rw [cle]; omega
      exact this)) (Bq_le h (k := (i : Int)) (by omega)) (by omega) S
    rw [← mo_step (r := r) h.all (by omega)] at e2
    have z : (0 : Int) + (i : Int) = (i : Int) := by omega
    have : c_l_added_1_0 [some (td ss r), some (fq p), some (fq (mo ss r ((i : Int) : Rat))), some (.int j), some (.int (0 + (i : Int)))] S' = .nx [some (td ss r), some (fq p), some (fq (mo ss r (((i + 1 : Nat) : Int) : Rat))), some (.int j), some (.int (0 + (i : Int)))] S' := by
      rw [z]
      simp [c_l_added_1_0, e1, e2]
    simp only [List.set]
    rw [this]
    exact ⟨rfl, _, rfl⟩
  · rintro ρ S' ⟨rfl, y, rfl⟩
    have e0 := fun S => part_ok hp (by omega) S
    have e1 := fun S => l_length_ok h (k := (j : Int)) (by omega) (by omega) S
    have bl := Bq_le h (k := (j : Int)) (by omega)
    have e2 := fun S => l_mul_ok (Bq_part hp) bl (by omega) S
    have bm := Bq_mo h (bi (j : Int) (by omega) (by omega)) (by
      have : ((0 : Int) : Rat) ≤ ((j : Int) : Rat) := by rw [cle]; omega
      exact this)
    have e3 := fun S => l_add_ok bm (Bq_mul (Bq_part hp) bl) (by omega) S
    rw [← hj] at e1 e2 e3
    rw [← mo_floor h.all h0] at e3
    have pd : (0 : Int) < p.den := by have := p.den_pos; omega
    have : c_l_added_2 [some (td ss r), some (fq p), some (fq (mo ss r ((j : Int) : Rat))), some (.int j), y] S' = .rt (fq (mo ss r p)) S' := by
      rw [← hj]
      simp only [fq] at e0 e1 e2 e3 ⊢
      simp [c_l_added_2, oMod_int _ pd, e0, e1, e2, e3, -oMod_if]
    dsimp only
    rw [this]
    exact end_pure0 (E := nE) pl_fq ⟨rfl, rfl⟩
/-- a moment, by the middles of lines -/
theorem l_moment_ok (h : Tok B ss r) (hp : Bq n p) (h0 : 0 ≤ p) (hn : n + 56 * B + 1600 ≤ 13000) (hn2 : n ≤ 6000) (S : Sto) : F_l_moment [td ss r, fq p] S = .ok (fq (mo ss r p)) S := by
  have f0 := fl_nonneg h0
  obtain ⟨w1, w2⟩ := whole_ok hp (by omega)
  have fa := Rat.floor_le p
  have fb := Rat.lt_floor_add_one p
  have z2 : szOk (0 + 1 + 1) = true := gd_of (by decide)
  have pd : (0 : Int) < p.den := by have := p.den_pos; omega
  have e0 := fun S => part_ok hp (by omega) S
  refine eq_of_wp (wp_run ?_)
  show Ws (b_l_moment [some (td ss r), some (fq p), none, none, none, none, none] S) _
  unfold b_l_moment
  refine ws_step (ρ' := [some (td ss r), some (fq p), some (.int p.floor), some (fq 0), none, none, none]) (S' := S) (by
    simp only [fq, c_l_moment_0, sPar_eq, aCons_eq, aNil_eq, eTup_eq, eC_eq, bind_ok, List.length_cons, List.length_nil, z2, if_true, eOp_eq, eVar_s, eVar_0, oIx_tup, atI_0, atI_1, List.getElem?_cons_zero, List.getElem?_cons_succ, oDiv_int _ w1, w2, sb_ok, List.set]
    rfl) ?_
  refine ws_step (ρ' := [some (td ss r), some (fq p), some (.int p.floor), some (fq 0), some (fq (p - (p.floor : Rat))), none, none]) (S' := S) (by
    simp only [fq] at e0 ⊢
    simp [c_l_moment_1, oMod_int _ pd, e0, -oMod_if]) ?_
  refine ws_seq ?_
  refine ws_forV (qs := ss) (g := sd) (it := .tup (ss.map sd)) (S1 := S) (by simp [td0]) (.inl rfl) (fun i ρ S' => S' = S ∧ sm (ss.take i) ≤ p.floor ∧ ∃ y5 y6, ρ = [some (td ss r), some (fq p), some (.int (p.floor - sm (ss.take i))), some (fq (tm (ss.take i))), some (fq (p - (p.floor : Rat))), y5, y6]) ⟨rfl, by simpa using f0, none, none, by simp⟩ ?_ ?_
  · rintro i hi ρ S' ⟨rfl, hle, y5, y6, rfl⟩
    have ok := h.all _ (List.getElem_mem hi)
    have m1 := ok.m1
    have m2 := ok.m2
    obtain ⟨t1, t2⟩ := h.take i
    refine ⟨_, put_nm _ _ _ _, ?_⟩
    simp only [List.set]
    by_cases hk' : p.floor < sm (ss.take (i + 1))
    · have hk2 := hk'
      rw [sm_take_succ hi] at hk2
      obtain ⟨q, hq⟩ : ∃ q, q = p.floor - sm (ss.take i) := ⟨_, rfl⟩
      rw [← hq]
      have lt : q < ss[i].m := by omega
      have ng : ¬ ss[i].m < q := by omega
      have q0 : 0 ≤ q := by omega
      have e1 := fun S => l_line_ok ok (w := q) (by omega) S
      have b1 := Bq_ln2 ok (w := q) (by omega)
      have bq : Bq 18 (q : Rat) := Bq_int (by omega) (by decide)
      have e2 := fun S => l_mul_ok bq b1 (by have := ok.bb; omega) S
      rw [ln2_tot ok] at e2
      have bt := Bq_tot ok (k := q) (by omega)
      have e3 := fun S => l_add_ok (Bq_tm t1 t2) bt (by omega) S
      have e4 := fun S => l_line_ok ok (w := 2 * q + 1) (by omega) S
      have bl := Bq_len ok (k := q) (by omega)
      rw [ln2_len ok] at e4
      have e5 := fun S => l_mul_ok (Bq_part hp) bl (by omega) S
      have e6 := fun S => l_add_ok (Bq_add (Bq_tm t1 t2) bt) (Bq_mul (Bq_part hp) bl) (by omega) S
      have g : mulOk 2 q = true := mulOk_of (a := 20) (b := 20) (by decide) (by omega) (by decide)
      -- the value
      have c0 : ((sm (ss.take i) : Int) : Rat) ≤ ((p.floor : Int) : Rat) := by rw [cle]; exact hle
      have c1 : ((p.floor + 1 : Int) : Rat) ≤ ((sm (ss.take (i + 1)) : Int) : Rat) := by rw [cle]; omega
      have val := mo_in (r := r) (p := p) hi h.all (by grind) (by grind)
      have fl : (p - ((sm (ss.take i) : Int) : Rat)).floor = q := fl_eq (by rw [hq, Rat.intCast_sub]; grind) (by rw [hq, Rat.intCast_sub]; grind)
      have val2 : tm (ss.take i) + tot ss[i] q + (p - (p.floor : Rat)) * len ss[i] q = mo ss r p := by
        rw [val]
        unfold mw
        rw [fl]
        have : p - ((sm (ss.take i) : Int) : Rat) - (q : Rat) = p - (p.floor : Rat) := by rw [hq, Rat.intCast_sub]; grind
        rw [this]
        grind
      rw [val2] at e6
      refine ws_step (ρ' := [some (td ss r), some (fq p), some (.int q), some (fq (tm (ss.take i))), some (fq (p - (p.floor : Rat))), some (sd ss[i]), some (.int q)]) (S' := S') (by
        simp [c_l_moment_2_0, sd0, ng]) ?_
      refine ws_step (ρ' := [some (td ss r), some (fq p), some (.int q), some (fq (tm (ss.take i) + tot ss[i] q)), some (fq (p - (p.floor : Rat))), some (sd ss[i]), some (.int q)]) (S' := S') (by
        simp [c_l_moment_2_1, fq_int, e1, e2, e3]) ?_
      have : c_l_moment_2_2 [some (td ss r), some (fq p), some (.int q), some (fq (tm (ss.take i) + tot ss[i] q)), some (fq (p - (p.floor : Rat))), some (sd ss[i]), some (.int q)] S' = .rt (fq (mo ss r p)) S' := by
        simp [c_l_moment_2_2, sd0, lt, g, e4, e5, e6]
      rw [ws_seq_eq, this]
      exact end_pure0 (E := nE) pl_fq ⟨rfl, rfl⟩
    · have hk2 := hk'
      rw [sm_take_succ hi] at hk2
      have gt : ss[i].m < p.floor - sm (ss.take i) ∨ ss[i].m = p.floor - sm (ss.take i) := by omega
      have lt : ¬ p.floor - sm (ss.take i) < ss[i].m := by omega
      have mn : (if ss[i].m < p.floor - sm (ss.take i) then ss[i].m else p.floor - sm (ss.take i)) = ss[i].m := by split <;> omega
      have e1 := fun S => l_line_ok ok (w := ss[i].m) (by omega) S
      have b1 := Bq_ln2 ok (w := ss[i].m) (by omega)
      have e2 := fun S => l_mul_ok ok.bm b1 (by have := ok.bb; omega) S
      rw [ln2_tot ok] at e2
      have bt := Bq_tot ok (k := ss[i].m) (by omega)
      have e3 := fun S => l_add_ok (Bq_tm t1 t2) bt (by omega) S
      rw [← tm_take_succ hi] at e3
      refine ws_step (ρ' := [some (td ss r), some (fq p), some (.int (p.floor - sm (ss.take i))), some (fq (tm (ss.take i))), some (fq (p - (p.floor : Rat))), some (sd ss[i]), some (.int ss[i].m)]) (S' := S') (by
        simp only [c_l_moment_2_0, sAsg_nm, eB_eq, aCons_eq, aNil_eq, eOp_eq, eVar_s, eVar_0, eC_eq, bind_ok, sd0, cMin_int, mn, sb_ok, List.set]) ?_
      refine ws_step (ρ' := [some (td ss r), some (fq p), some (.int (p.floor - sm (ss.take i))), some (fq (tm (ss.take (i + 1)))), some (fq (p - (p.floor : Rat))), some (sd ss[i]), some (.int ss[i].m)]) (S' := S') (by
        simp [c_l_moment_2_1, fq_int, e1, e2, e3]) ?_
      refine ws_step (ρ' := [some (td ss r), some (fq p), some (.int (p.floor - sm (ss.take i))), some (fq (tm (ss.take (i + 1)))), some (fq (p - (p.floor : Rat))), some (sd ss[i]), some (.int ss[i].m)]) (S' := S') (by
        simp [c_l_moment_2_2, sd0, lt]) ?_
      have e : p.floor - sm (ss.take i) - ss[i].m = p.floor - sm (ss.take (i + 1)) := by rw [sm_take_succ hi]; omega
      have : c_l_moment_2_3 [some (td ss r), some (fq p), some (.int (p.floor - sm (ss.take i))), some (fq (tm (ss.take (i + 1)))), some (fq (p - (p.floor : Rat))), some (sd ss[i]), some (.int ss[i].m)] S' = .nx [some (td ss r), some (fq p), some (.int (p.floor - sm (ss.take (i + 1)))), some (fq (tm (ss.take (i + 1)))), some (fq (p - (p.floor : Rat))), some (sd ss[i]), some (.int ss[i].m)] S' := by
        simp [c_l_moment_2_3, sd0, e]
      rw [this]
      exact ⟨rfl, by omega, _, _, rfl⟩
  · rintro ρ S' ⟨rfl, hle, y5, y6, rfl⟩
    rw [List.take_length] at hle
    dsimp only
    rw [List.take_length]
    have s0 := h.sm0 ss.length
    rw [List.take_length] at s0
    have bf : Bq (n + 1) (p.floor : Rat) := by
      refine Bq_int ?_ (by omega)
      have : p.floor.natAbs ≤ p.num.natAbs := by
        rw [Rat.floor_def]
        exact Int.natAbs_ediv_le_natAbs _ _
      have := hp.1
      rw [Nat.pow_succ]
      omega
    have bd : Bq (n + 20) ((p.floor - sm ss : Int) : Rat) := by
      rw [Rat.intCast_sub]
      exact (Bq_sub_int bf s0).mono (by omega)
    have e1 := fun S => l_add_ok bd (Bq_part hp) (by omega) S
    have bs : Bq (n + 20) (((p.floor - sm ss : Int) : Rat) + (p - (p.floor : Rat))) := by
      have : ((p.floor - sm ss : Int) : Rat) + (p - (p.floor : Rat)) = p - (sm ss : Rat) := by rw [Rat.intCast_sub]; grind
      rw [this]
      exact (Bq_sub_int hp s0).mono (by omega)
    have e2 := fun S => l_mul_ok bs h.br (by omega) S
    have e3 := fun S => l_add_ok (Bq_tm h.all h.n24) (Bq_mul bs h.br) (by omega) S
    have c0 : ((sm ss : Int) : Rat) ≤ ((p.floor : Int) : Rat) := by rw [cle]; exact hle
    have val : tm ss + (((p.floor - sm ss : Int) : Rat) + (p - (p.floor : Rat))) * r = mo ss r p := by
      rw [mo_out h.all (by grind), Rat.intCast_sub]
      grind
    rw [val] at e3
    have : c_l_moment_3 [some (td ss r), some (fq p), some (.int (p.floor - sm ss)), some (fq (tm ss)), some (fq (p - (p.floor : Rat))), y5, y6] S' = .rt (fq (mo ss r p)) S' := by
      simp only [c_l_moment_3, sRet_eq, eCall_eq, aCons_eq, aNil_eq, eVar_s, eVar_0, eTup_eq, eC_eq, bind_ok, List.length_cons, List.length_nil, z2, if_true, fq_int, e1, eOp_eq, td1, e2, e3, sb_ok]
    rw [this]
    exact end_pure0 (E := nE) pl_fq ⟨rfl, rfl⟩
end
end Fx
set_option Elab.async false
set_option linter.all false
set_option maxRecDepth 100000
set_option exponentiation.threshold 20000
/-! more of the laws' drawn tempos: short ones, one stretch twice, another rest; edges -/
namespace Fx
open PySem L2 DV
section
variable {ns : List Int} {p : Int × Int} {T E' : Sto} {k n m : Nat} {Q : D → Sto → Prop} {E : Str → Sto → Prop} {R : Rat} {N : Pq} {ss : List St} {M : Int}
theorem wp_tempoI {i : Int} (m : Nat) (hi : i = m) (h : Pk p k) (hm : m ≤ 1000) (hk : k + 20 + 12 * m ≤ 1000000000000) (q : ∀ ss R p', Drawn 30 9000 m ss R → Pk p' (k + 20 + 12 * m) → Q (td ss R) (Pn ns p' T)) : Wp (F_l_tempo [.ob 0, .int i] (Pn ns p T)) Q E := by
  subst hi; exact wp_tempo h hm hk q
theorem wp_short (h : Pk p k) (hk : k + 80 ≤ 1000000000000) (q : ∀ ss R p', Drawn 30 6 4 ss R → Pk p' (k + 80) → Q (td ss R) (Pn ns p' T)) : Wp (F_l_short [.ob 0] (Pn ns p T)) Q E := by
  have z0 : szOk 0 = true := gd_of (by decide)
  have z2 : szOk (0 + 1 + 1) = true := gd_of (by decide)
  have z3 : szOk (0 + 1 + 1 + 1) = true := gd_of (by decide)
  refine wp_run ?_
  show Ws (b_l_short [some (.ob 0), none, none, none, none, none, none] (Pn ns p T)) _
  unfold b_l_short
  refine ws_seq ?_
  simp only [c_l_short_0, sPar_eq, eCall_eq, aCons_eq, aNil_eq, eVar_0, bind_ok, ws_sb, wp_bind]
  refine wp_above h (by omega) fun R p1 R0 bR h1 => ?_
  simp only [eLstS_eq, aNil_eq, bind_ok, List.length_nil, z0, if_true, wp_ok, wp_bind, ws_sb, ws_nx, List.set, pn_app, pn_len]
  refine ws_seq ?_
  simp only [c_l_short_1, sFor, iSeq_eq, eOp_eq, eCall_eq, aCons_eq, aNil_eq, eVar_0, eC_eq, bind_ok, ws_sb, wp_bind]
  refine wp_tempoI 4 rfl h1 (by decide) (by omega) fun ts R' p2 dr h2 => ?_
  simp only [bind_ok, eC_eq, td0, wp_ok, wp_bind, ws_sb, Itd.size, List.length_map]
  refine ws_forGo (n := ts.length) (xs := fun i => (ts.map sd)[i]?.getD .non) (fun i ρ S => ∃ x3 x4 x5 x6 ss, ρ = [some (.ob 0), some (fq R), some (.ob (T.length + 1)), x3, x4, x5, x6] ∧ S = Ps ns p2 T ss ∧ Gs 6 ss ∧ ss.length ≤ i) ?_ ?_ ?_ _ _ _ _ (by simp) (by omega) ⟨none, none, none, none, [], rfl, rfl, .nil, by simp⟩
  · intro i ρ S hi _
    have := isTup (ts.map sd) S i (by simpa using hi)
    simpa using this
  · rintro i ρ S hi ⟨x3, x4, x5, x6, ss, rfl, rfl, g, hl⟩
    have e : (ts.map sd)[i]?.getD .non = sd ts[i] := by simp [hi]
    have hs := dr.gs.all _ (List.getElem_mem hi)
    have dl := dr.len
    refine ⟨[some (.ob 0), some (fq R), some (.ob (T.length + 1)), some (.int ts[i].m), some (fq ts[i].f), some (fq ts[i].l), x6], by rw [e]; simp [sd], ?_⟩
    have ok : Sok 40 ⟨1 + ts[i].m % 6, ts[i].f, ts[i].l⟩ ∧ (⟨1 + ts[i].m % 6, ts[i].f, ts[i].l⟩ : St).m ≤ 6 := by
      have a := Int.emod_nonneg ts[i].m (show (6 : Int) ≠ 0 by decide)
      have b := Int.emod_lt_of_pos ts[i].m (show (0 : Int) < 6 by decide)
      exact ⟨⟨by decide, by show 1 ≤ 1 + ts[i].m % 6; omega, by show 1 + ts[i].m % 6 ≤ 200000; omega, hs.1.f0, hs.1.l0, hs.1.bf, hs.1.bl⟩, by show 1 + ts[i].m % 6 ≤ 6; omega⟩
    refine ws_step (ρ' := [some (.ob 0), some (fq R), some (.ob (T.length + 1)), some (.int ts[i].m), some (fq ts[i].f), some (fq ts[i].l), some (sd ⟨1 + ts[i].m % 6, ts[i].f, ts[i].l⟩)]) (S' := Ps ns p2 T ss) (by
      simp only [c_l_short_1_0, sAsg_nm, eTup_eq, aCons_eq, aNil_eq, eOp_eq, eC_eq, eVar_s, eVar_0, bind_ok, oMod_int _ (show (0 : Int) < 6 by decide), oAdd_int, List.length_cons, List.length_nil, z3, if_true, sb_ok, List.set]
      rfl) ?_
    obtain ⟨ss', g', l', e⟩ := push_ok (ns := ns) (p := p2) (T := T) (a := eVar 2) (b := eVar 6) (ρ := [some (.ob 0), some (fq R), some (.ob (T.length + 1)), some (.int ts[i].m), some (fq ts[i].f), some (fq ts[i].l), some (sd ⟨1 + ts[i].m % 6, ts[i].f, ts[i].l⟩)]) g ok (by omega) (fun S => rfl) (fun S => rfl)
    have e' : c_l_short_1_1 [some (.ob 0), some (fq R), some (.ob (T.length + 1)), some (.int ts[i].m), some (fq ts[i].f), some (fq ts[i].l), some (sd ⟨1 + ts[i].m % 6, ts[i].f, ts[i].l⟩)] (Ps ns p2 T ss) = _ := e
    rw [e']
    exact ⟨_, _, _, _, ss', rfl, rfl, g', by omega⟩
  · rintro ρ S ⟨x3, x4, x5, x6, ss, rfl, rfl, g, hl⟩
    have dl := dr.len
    dsimp only
    refine ws_seq ?_
    obtain ⟨ss', g', l', n', e⟩ := pops_ok (M := 6) (R := R) (ns := ns) (p := p2) (T := T) (a := eVar 2) (c := eVar 1) (ρ := [some (.ob 0), some (fq R), some (.ob (T.length + 1)), x3, x4, x5, x6]) (fun S => rfl) (fun S => rfl) 100000 ss g (by omega)
    have e' : c_l_short_2 [some (.ob 0), some (fq R), some (.ob (T.length + 1)), x3, x4, x5, x6] (Ps ns p2 T ss) = .nx [some (.ob 0), some (fq R), some (.ob (T.length + 1)), x3, x4, x5, x6] (Ps ns p2 T ss') := by
      unfold c_l_short_2 sWh fu_l_short_0 c_l_short_2_0
      exact e
    rw [e']
    simp only [ws_nx, c_l_short_3, sRet_eq, eTup_eq, aCons_eq, aNil_eq, eB_eq, eVar_s, eVar_0, bind_ok, cTuple_ob ps_at, List.length_cons, List.length_nil, z2, if_true, sb_ok, ws_rt]
    exact ⟨Pn ns p2 T, [.lst (ss'.map sd)], td ss' R, rfl, kp_pen, frz_pl 40 _ pl_td, q _ _ _ ⟨g', by omega, R0, bR, n'⟩ (h2.mono (by omega))⟩
theorem oEq_pair (p q p' q' : Rat) (S : Sto) : oEq (.tup [fq p, fq q]) (.tup [fq p', fq q']) S = .ok (.bl (decide (p = p' ∧ q = q'))) S := by
  have cc : ∀ a b : Rat, Cn 40 (.tup [fq a, fq b]) := fun a b => by simp only [Cn, Cns, and_true]; exact ⟨cn_fq, cn_fq⟩
  have := oNe_pair p q p' q' S
  rw [oNe_cn (cc _ _) (cc _ _)] at this
  rw [oEq_cn (cc _ _) (cc _ _)]
  simp only [Res.ok.injEq, D.bl.injEq, and_true, Bool.not_inj_iff] at this
  rw [this]
theorem sl1 (s : St) (S : Sto) : oSl (sd s) (some 1) none S = .ok (.tup [fq s.f, fq s.l]) S := rfl
/-- one stretch once more at the end -/
theorem wp_twice (h : Pk p k) (hk : k + 2 ≤ 1000000000000) {b : Nat} (d : Drawn b M n ss R) (hn : n ≤ 100) (q : ∀ ss' p', Drawn b M (n + 1) ss' R → Pk p' (k + 2) → Q (td ss' R) (Pn ns p' T)) : Wp (F_l_twice [.ob 0, td ss R] (Pn ns p T)) Q E := by
  have z2 : szOk (0 + 1 + 1) = true := gd_of (by decide)
  have dl := d.len
  have same : Drawn b M (n + 1) ss R := ⟨d.gs, by omega, d.r0, d.br, d.last⟩
  have fin : ∀ {p'}, Pk p' (k + 2) → (endP (Pn ns p T) Q E).rt (td ss R) (Pn ns p' T) := fun hp => ⟨Pn ns _ T, [], td ss R, by simp, kp_pen, frz_pl 40 _ pl_td, q _ _ same hp⟩
  refine wp_run ?_
  show Ws (b_l_twice [some (.ob 0), some (td ss R), none, none] (Pn ns p T)) _
  unfold b_l_twice
  refine ws_step (ρ' := [some (.ob 0), some (td ss R), some (.tup (ss.map sd)), some (fq R)]) (S' := Pn ns p T) (by simp [c_l_twice_0, td]) ?_
  refine ws_seq ?_
  simp only [c_l_twice_1, sIf_eq, bOr_eq, tTru_eq, eOp_eq, eB_eq, aCons_eq, aNil_eq, eVar_s, eVar_0, bind_ok, cLen_tup, List.length_map, eC_eq, oLt_int, truD_bl]
  by_cases h2 : (ss.length : Int) < 2
  · simp only [h2, decide_true, if_true, sb_ok, sRet_eq, eVar_s, eVar_0, ws_rt]
    exact fin (h.mono (by omega))
  · have h0 : 0 < ss.length := by omega
    have he : ss ≠ [] := List.length_pos_iff.mp h0
    have a0 : atI (ss.map sd) 0 = some (sd ss[0]) := by
      rw [atI_0]
      simp [h0]
    simp only [h2, decide_false, Bool.false_eq_true, if_false, eSl_eq, eOp_eq, eVar_s, eVar_0, eC_eq, bind_ok, oIx_tup, a0, pAt_eq, pNo_eq, sl1, eTup_eq, aCons_eq, aNil_eq, List.length_cons, List.length_nil, z2, if_true, oEq_pair, truD_bl]
    by_cases h3 : ss[0].f = R ∧ ss[0].l = R
    · simp only [h3, and_self, decide_true, if_true, bind_ok, truD_bl, sb_ok, sRet_eq, eVar_s, eVar_0, ws_rt]
      exact fin (h.mono (by omega))
    · have s0 := d.gs.all _ (List.getElem_mem h0)
      have sl := d.gs.all _ (List.getLast_mem he)
      have go := fun S => l_goes_on_ok sl.1 s0.1 S
      simp only [h3, decide_false, bind_ok, truD_bl, Bool.false_eq_true, if_false, eCall_eq, aCons_eq, aNil_eq, eOp_eq, eVar_s, eVar_0, eNeg_eq, eC_eq, oIx_tup, at_last he, a0, go]
      by_cases h4 : (ss.getLast he).l = ss[0].f ∧ rise (ss.getLast he) = rise ss[0]
      · simp only [h4, and_self, decide_true, truD_bl, bind_ok, if_true, sb_ok, sRet_eq, eVar_s, eVar_0, ws_rt]
        exact fin (h.mono (by omega))
      · simp only [h4, decide_false, truD_bl, bind_ok, Bool.false_eq_true, if_false, ws_sb, wp_bind]
        refine wp_draw h (by omega) (by decide) (by decide) fun v p' v0 v1 h' => ?_
        by_cases hv : v = 0
        · have hv' : (v == 0) = true := by simpa using hv
          simp only [oEq_int2, hv', wp_ok, wp_bind, ws_sb, truD_bl, if_true, sRet_eq, eVar_s, eVar_0, bind_ok, sb_ok, ws_rt]
          exact fin (h'.mono (by omega))
        · have hv' : (v == 0) = false := by simpa using hv
          have cut : ∀ S, oSl (.tup (ss.map sd)) none (some 1) S = .ok (.tup [sd ss[0]]) S := fun S => by
            obtain ⟨s, rest, rfl⟩ : ∃ s rest, ss = s :: rest := List.exists_cons_of_ne_nil he
            simp only [oSl]
            rfl
          have zz : szOk ((ss.map sd).length + (0 + 1)) = true := gd_of (by simp; omega)
          have ap : ss.map sd ++ [sd ss[0]] = (ss ++ [ss[0]]).map sd := by simp
          simp only [oEq_int2, hv', wp_ok, wp_bind, ws_sb, truD_bl, Bool.false_eq_true, if_false, sNil_eq, ws_nx, c_l_twice_2, sRet_eq, eTup_eq, aCons_eq, aNil_eq, eOp_eq, eVar_s, eVar_0, bind_ok, eSl_eq, pNo_eq, pAt_eq, eC_eq, cut, oAdd_tup, zz, if_true, List.length_cons, List.length_nil, z2, sb_ok, ws_rt, ap]
          refine ⟨Pn ns p' T, [], td (ss ++ [ss[0]]) R, by simp, kp_pen, frz_pl 40 _ pl_td, q _ _ ⟨d.gs.snoc s0 (fun _ => h4), by simp; omega, d.r0, d.br, fun _ => by simpa using h3⟩ (h'.mono (by omega))⟩
/-- the same with another rest -/
theorem other_rest_ok (d : Drawn 30 M n ss R) (S : Sto) : ∃ R', F_l_other_rest [td ss R] S = .ok (td ss R') S ∧ Drawn 40 M n ss R' := by
  have z0 : szOk 0 = true := gd_of (by decide)
  have z2 : szOk (0 + 1 + 1) = true := gd_of (by decide)
  have half : D.tup [.int 1, .int 2] = fq (1 / 2) := by
    have : ((1 : Rat) / 2) = Rat.divInt 1 2 := by rw [divInt_div]; rfl
    rw [this]; rfl
  have bh : Bq 2 ((1 : Rat) / 2) := by
    have : ((1 : Rat) / 2) = Rat.divInt 1 2 := by rw [divInt_div]; rfl
    rw [this]; exact Bq_divInt (by decide) (by decide) (by decide)
  have r0 := d.r0
  have bR := d.br.mono (show 30 ≤ 36 by decide)
  have e1 := fun S => l_add_ok bR bh (by decide) S
  have b1 : Bq 39 (R + 1 / 2) := Bq_add bR bh
  have neT : ∀ S, oNe (.tup (ss.map sd)) (.tup []) S = .ok (.bl (!ss.isEmpty)) S := fun S => by
    rw [oNe_cn (by simp only [Cn]; exact cns_iff.mpr fun d hd => by obtain ⟨s, _, rfl⟩ := List.mem_map.mp hd; exact cn_sd) (by simp [Cn, Cns])]
    have : gd (D.tup (ss.map sd) = D.tup []) = ss.isEmpty := by
      cases ss with
      | nil => exact gd_of rfl
      | cons x xs =>
        cases z : gd (D.tup ((x :: xs).map sd) = D.tup []) with
        | true => have := of_gd z; simp at this
        | false => rfl
    rw [this]
  have drawn : ∀ r, 0 < r → Bq 40 r → (∀ h : ss ≠ [], ¬ ((ss.getLast h).f = r ∧ (ss.getLast h).l = r)) → Drawn 40 M n ss r := fun r a b c => ⟨d.gs, d.len, a, b, c⟩
  have run : ∀ R', (∀ S, c_l_other_rest_1 [some (td ss R), some (fq (R + 1 / 2))] S = .nx [some (td ss R), some (fq R')] S) → F_l_other_rest [td ss R] S = .ok (td ss R') S := fun R' e => by
    unfold F_l_other_rest b_l_other_rest
    refine run_eq0 ?_ pl_td
    show sSeq _ _ [some (td ss R), none] S = _
    refine (seq_nx (ρ' := [some (td ss R), some (fq (R + 1 / 2))]) (S' := S) (by
      simp only [c_l_other_rest_0, sAsg_nm, eCall_eq, aCons_eq, aNil_eq, eOp_eq, eVar_0, eC_eq, bind_ok, td1, eTup_eq, List.length_cons, List.length_nil, z2, if_true, half, e1, sb_ok, List.set]) _).trans ?_
    refine (seq_nx (e S) _).trans ?_
    simp only [c_l_other_rest_2, sRet_eq, eTup_eq, aCons_eq, aNil_eq, eOp_eq, eVar_s, eVar_0, eC_eq, bind_ok, td0, List.length_cons, List.length_nil, z2, if_true, sb_ok]
    rfl
  by_cases he : ss = []
  · refine ⟨R + 1 / 2, run _ fun S => ?_, drawn _ (by grind) (b1.mono (by decide)) (fun h => absurd he h)⟩
    have ie : ss.isEmpty = true := by simpa using he
    simp only [c_l_other_rest_1, sIf_eq, bAnd_eq, tTru_eq, eOp_eq, eVar_0, eC_eq, bind_ok, td0, eTup_eq, aNil_eq, List.length_nil, z0, if_true, neT, ie, truD_bl, Bool.not_true, Bool.false_eq_true, if_false, sb_ok, sNil_eq]
  · have ie : ss.isEmpty = false := by simpa using he
    by_cases hR : (ss.getLast he).f = R + 1 / 2 ∧ (ss.getLast he).l = R + 1 / 2
    · have e2 := fun S => l_add_ok b1 bh (by decide) S
      have b2 : Bq 42 (R + 1 / 2 + 1 / 2) := Bq_add b1 bh
      have e3 : R + 1 / 2 + 1 / 2 = R + 1 := by grind
      have b3 : Bq 40 (R + 1) := by
        have := Bq_add bR (show Bq 1 (1 : Rat) from ⟨by decide, by decide⟩)
        exact this.mono (by decide)
      refine ⟨R + 1, run _ fun S => ?_, drawn _ (by grind) b3 (fun _ hh => by grind)⟩
      simp only [c_l_other_rest_1, sIf_eq, bAnd_eq, tTru_eq, eOp_eq, eVar_s, eVar_0, eC_eq, bind_ok, td0, eTup_eq, aCons_eq, aNil_eq, List.length_cons, List.length_nil, z0, z2, if_true, neT, ie, truD_bl, Bool.not_false, eSl_eq, eNeg_eq, oIx_tup, at_last he, pAt_eq, pNo_eq, sl1, oEq_pair, hR, and_self, decide_true, sb_ok, sAsg_nm, eCall_eq, half, e2, e3, List.set]
    · refine ⟨R + 1 / 2, run _ fun S => ?_, drawn _ (by grind) (b1.mono (by decide)) (fun _ => hR)⟩
      simp only [c_l_other_rest_1, sIf_eq, bAnd_eq, tTru_eq, eOp_eq, eVar_s, eVar_0, eC_eq, bind_ok, td0, eTup_eq, aCons_eq, aNil_eq, List.length_cons, List.length_nil, z0, z2, if_true, neT, ie, truD_bl, Bool.not_false, eSl_eq, eNeg_eq, oIx_tup, at_last he, pAt_eq, pNo_eq, sl1, oEq_pair, hR, decide_false, Bool.false_eq_true, if_false, sb_ok, sNil_eq]
/-- the steps at which stretches begin, and the first one behind them -/
def edges (ss : List St) : List Int := (List.range (ss.length + 1)).map fun i => sm (ss.take i)
theorem edges_len : (edges ss).length = ss.length + 1 := by simp [edges]
theorem edges_mem {B : Nat} (h : ∀ s ∈ ss, Sok B s) : ∀ e ∈ edges ss, 0 ≤ e ∧ e ≤ sm ss := fun e he => by
  obtain ⟨i, _, rfl⟩ := List.mem_map.mp he
  exact sm_take_le h
theorem edges_last : (edges ss).getLast? = some (sm ss) := by
  unfold edges
  rw [List.range_succ, List.map_append]
  simp
theorem l_edges_ok {B : Nat} (h : ∀ s ∈ ss, Sok B s) (hl : ss.length ≤ 1000) (S : Sto) : F_l_edges [td ss R] S = .ok (.lst ((edges ss).map D.int)) S := by
  have z1 : szOk (0 + 1) = true := gd_of (by decide)
  refine eq_of_wp (wp_run ?_)
  show Ws (b_l_edges [some (td ss R), none, none] S) _
  unfold b_l_edges
  let E := fun i => D.lst (((List.range (i + 1)).map fun i => sm (ss.take i)).map D.int)
  let O' := fun i => O.lst (((List.range (i + 1)).map fun i => sm (ss.take i)).map D.int)
  refine ws_step (ρ' := [some (td ss R), some (.ob S.length), none]) (S' := S ++ [O' 0]) (by
    simp only [c_l_edges_0, sAsg_nm, eLstS_eq, aCons_eq, aNil_eq, eC_eq, bind_ok, List.length_cons, List.length_nil, z1, if_true, sb_ok, List.set, O']
    rfl) ?_
  refine ws_seq ?_
  refine ws_forV (qs := ss) (g := sd) (it := .tup (ss.map sd)) (S1 := S ++ [O' 0]) (by simp [td0]) (.inl rfl) (fun i ρ S' => S' = S ++ [O' i] ∧ ∃ y, ρ = [some (td ss R), some (.ob S.length), y]) ⟨rfl, _, rfl⟩ ?_ ?_
  · rintro i hi ρ S' ⟨rfl, y, rfl⟩
    refine ⟨_, put_nm _ _ _ _, ?_⟩
    have at1 : (S ++ [O' i])[S.length]? = some (O' i) := by simp
    have last : oIx (.ob S.length) (.int (-1)) (S ++ [O' i]) = .ok (.int (sm (ss.take i))) (S ++ [O' i]) := by
      rw [oIx_obL at1, oIx_lst, at_last (g := D.int) (by simp)]
      simp [List.range_succ]
    have ap := eApp_at (a := eVar 1) (b := eOp oAdd (eOp oIx (eVar 1) (eNeg (eC (.int 1)))) (eOp oIx (eVar 2) (eC (.int 0)))) (ρ := [some (td ss R), some (.ob S.length), some (sd ss[i])]) (S := S ++ [O' i]) (d := .int (sm (ss.take i) + ss[i].m)) (S2 := S ++ [O' i]) rfl at1 (by
      simp only [eOp_eq, eVar_s, eVar_0, eNeg_eq, eC_eq, bind_ok, last, sd0, oAdd_int]) at1 (by simp; omega)
    have set1 : (S ++ [O' i]).set S.length (.lst ((((List.range (i + 1)).map fun i => sm (ss.take i)).map D.int) ++ [D.int (sm (ss.take i) + ss[i].m)])) = S ++ [O' (i + 1)] := by
      rw [sto_set0]
      simp only [O']
      congr 3
      rw [List.range_succ (n := i + 1), List.map_append, List.map_append, List.map_singleton, List.map_singleton, sm_take_succ hi]
    rw [set1] at ap
    have : c_l_edges_1_0 [some (td ss R), some (.ob S.length), some (sd ss[i])] (S ++ [O' i]) = .nx [some (td ss R), some (.ob S.length), some (sd ss[i])] (S ++ [O' (i + 1)]) := by
      simp only [c_l_edges_1_0, sExpr_eq, ap, sb_ok]
    simp only [List.set]
    rw [this]
    exact ⟨rfl, _, rfl⟩
  · rintro ρ S' ⟨rfl, y, rfl⟩
    simp only [c_l_edges_2, sRet_eq, eVar_s, eVar_0, sb_ok, ws_rt]
    refine ⟨S, [O' ss.length], .lst ((edges ss).map D.int), rfl, .rfl', ?_, rfl, rfl⟩
    have f : frz S.length (S ++ [O' ss.length]) 40 (.ob S.length) = (frzs S.length (S ++ [O' ss.length]) 39 ((edges ss).map D.int)).map .lst := by
      have at2 : (S ++ [O' ss.length])[S.length]? = some (O' ss.length) := by simp
      simp only [frz, at2]
      simp [O', edges]
    rw [f, frz_ints (k := 37) (edges ss), Option.map_some]
end
end Fx
set_option Elab.async false
set_option linter.all false
set_option maxRecDepth 100000
set_option exponentiation.threshold 20000
/-! the laws' far and wide tempos -/
namespace Fx
open PySem L2 DV
theorem Bq_addi {f : Rat} {i : Int} (hf : Bq 30 f) (h0 : 0 ≤ i) (h1 : i ≤ 1000) : Bq 40 (f + (i : Rat)) := by
  have e : f + (i : Rat) = Rat.divInt (f.num + i * (f.den : Int)) (f.den : Int) := by
    rw [divInt_div]
    have q1 := num_den f
    have q2 := den_pos f
    simp only [Rat.intCast_add, Rat.intCast_mul]
    rw [← q1]
    grind
  rw [e]
  have t2 : i.natAbs * f.den ≤ 1000 * 2 ^ 30 := Nat.mul_le_mul (by omega) (Nat.le_of_lt hf.2)
  have t1 : (i * (f.den : Int)).natAbs ≤ 1000 * 2 ^ 30 := by rw [Int.natAbs_mul, den_abs]; exact t2
  exact Bq_divInt (den_ne f) (by have := hf.1; omega) (by rw [den_abs]; have := hf.2; omega)
theorem cpos {i : Int} (h : 0 < i) : (0 : Rat) < (i : Rat) := by
  have : ((0 : Int) : Rat) < (i : Rat) := by rw [clt]; exact h
  exact this
theorem cnn {i : Int} (h : 0 ≤ i) : (0 : Rat) ≤ (i : Rat) := by
  have : ((0 : Int) : Rat) ≤ (i : Rat) := by rw [cle]; exact h
  exact this
section
variable {ns : List Int} {p : Int × Int} {T E' : Sto} {k n m : Nat} {Q : D → Sto → Prop} {E : Str → Sto → Prop} {R : Rat} {N : Pq} {ss : List St} {M : Int}
theorem wp_far (h : Pk p k) (hk : k + 20 ≤ 1000000000000) (q : ∀ ss R p', Tok 40 ss R → Bq 30 R → 17 ≤ sm ss → Pk p' (k + 20) → Q (td ss R) (Pn ns p' T)) : Wp (F_l_far [.ob 0] (Pn ns p T)) Q E := by
  have z1 : szOk (0 + 1) = true := gd_of (by decide)
  have z2 : szOk (0 + 1 + 1) = true := gd_of (by decide)
  have z3 : szOk (0 + 1 + 1 + 1) = true := gd_of (by decide)
  refine wp_run ?_
  show Ws (b_l_far [some (.ob 0), none, none, none, none, none] (Pn ns p T)) _
  unfold b_l_far
  refine ws_seq ?_
  simp only [c_l_far_0, sPar_eq, eCall_eq, aCons_eq, aNil_eq, eVar_0, bind_ok, ws_sb, wp_bind]
  refine wp_above h (by omega) fun R p1 R0 bR h1 => ?_
  simp only [wp_ok, wp_bind, bind_ok, ws_sb]
  refine wp_above h1 (by omega) fun f p2 f0 bf h2 => ?_
  simp only [wp_ok, wp_bind, bind_ok, ws_sb, ws_nx, List.set]
  refine ws_seq ?_
  simp only [c_l_far_1, sAsg_nm, eOp_eq, eC_eq, eLst_eq, aCons_eq, aNil_eq, eCall_eq, eVar_0, bind_ok, ws_sb, wp_bind]
  refine wp_draw h2 (by omega) (by decide) (by decide) fun u p3 u0 u1 h3 => ?_
  simp only [wp_ok, wp_bind, bind_ok, ws_sb, List.length_cons, List.length_nil, z2, if_true]
  refine wp_draw h3 (by omega) (by decide) (by decide) fun d p4 d0 d1 h4 => ?_
  obtain ⟨v, hv, ev⟩ := atI_mem (l := [D.int 0, .int u]) d0 (by simpa using d1)
  obtain ⟨w, rfl, w0, w1⟩ : ∃ w : Int, v = .int w ∧ 0 ≤ w ∧ w < 150000 := by
    simp only [List.mem_cons, List.not_mem_nil, or_false] at hv
    rcases hv with rfl | rfl
    · exact ⟨_, rfl, by decide, by decide⟩
    · exact ⟨_, rfl, u0, u1⟩
  simp only [oIx_lst, ev, wp_ok, oSub_int, bind_ok, ws_nx, List.set]
  refine ws_seq ?_
  simp only [c_l_far_2, sAsg_nm, eCall_eq, aCons_eq, aNil_eq, eTup_eq, eOp_eq, eC_eq, eLst_eq, eVar_s, eVar_0, bind_ok, List.length_cons, List.length_nil, z2, if_true, ws_sb, wp_bind]
  refine wp_draw h4 (by omega) (by decide) (by decide) fun d' p5 d0' d1' h5 => ?_
  obtain ⟨v', hv', ev'⟩ := atI_mem (l := [D.int 9, .int 899]) d0' (by simpa using d1')
  obtain ⟨w', rfl, w0', w1'⟩ : ∃ w : Int, v' = .int w ∧ 1 ≤ w ∧ w ≤ 899 := by
    simp only [List.mem_cons, List.not_mem_nil, or_false] at hv'
    rcases hv' with rfl | rfl <;> exact ⟨_, rfl, by decide, by decide⟩
  simp only [oIx_lst, ev', wp_ok, wp_bind, bind_ok, ws_sb]
  refine wp_draw h5 (by omega) (by omega) (by omega) fun g p6 g0 g1 h6 => ?_
  have bg : Bq 10 ((1 + g : Int) : Rat) := Bq_int (by omega) (by decide)
  have gp : (0 : Rat) < ((1 + g : Int) : Rat) := cpos (by omega)
  have l_last := fun S => l_add_ok bf bg (by decide) S
  obtain ⟨L, hL⟩ : ∃ L, L = f + ((1 + g : Int) : Rat) := ⟨_, rfl⟩
  rw [← hL] at l_last
  have blp : Bq 40 L := by rw [hL]; exact Bq_addi bf (by omega) (by omega)
  have f4 := bf.mono (m := 40) (by decide)
  have R4 := bR.mono (m := 40) (by decide)
  have m5 : 1 ≤ 200000 - w := by omega
  simp only [oAdd_int, wp_ok, wp_bind, bind_ok, ws_sb, List.length_cons, List.length_nil, z2, if_true, fq_int, l_last, ws_nx, List.set]
  refine ws_seq ?_
  simp only [c_l_far_3, sIf_eq, tTru_eq, eOp_eq, eCall_eq, aCons_eq, aNil_eq, eC_eq, eVar_s, eVar_0, bind_ok, ws_sb, wp_bind]
  refine wp_draw h6 (by omega) (by decide) (by decide) fun c p7 c0 c1 h7 => ?_
  by_cases hc : c = 0
  · have hc' : (c == 0) = true := by simpa using hc
    simp only [oEq_int2, hc', wp_ok, wp_bind, truD_bl, if_true, sRet_eq, eTup_eq, aCons_eq, aNil_eq, eVar_s, eVar_0, bind_ok, List.length_cons, List.length_nil, z1, z2, z3, sb_ok, ws_rt]
    refine ⟨Pn ns p7 T, [], td [⟨200000 - w, f, L⟩] R, by simp, kp_pen, frz_pl 40 _ (pl_td (ss := [⟨200000 - w, f, L⟩]) (k := 31)), q _ _ _ ⟨by simp, ?_, R0, R4, by simp; omega, fun i hi => by simp at hi, ?_⟩ bR (by simp; omega) (h7.mono (by omega))⟩
    · intro s hs
      rw [List.mem_singleton.mp hs]
      exact ⟨by decide, m5, by show 200000 - w ≤ 200000; omega, f0, by show 0 < L; grind, f4, blp⟩
    · intro _ hh
      simp only [List.getLast_singleton] at hh
      grind
  · have hc' : (c == 0) = false := by simpa using hc
    simp only [oEq_int2, hc', wp_ok, wp_bind, truD_bl, Bool.false_eq_true, if_false, sNil_eq, ws_nx]
    refine ws_seq ?_
    simp only [c_l_far_4, sAsg_nm, eOp_eq, eCall_eq, aCons_eq, aNil_eq, eC_eq, eVar_s, eVar_0, bind_ok, oSub_int, ws_sb, wp_bind]
    refine wp_draw h7 (by omega) (by omega) (by omega) fun a p8 a0 a1 h8 => ?_
    have l_up := fun S => l_add_ok blp (show Bq 1 (1 : Rat) from ⟨by decide, by decide⟩) (by decide) S
    have eg : L + 1 = f + ((2 + g : Int) : Rat) := by rw [hL]; grind
    have bup : Bq 40 (L + 1) := by rw [eg]; exact Bq_addi bf (by omega) (by omega)
    have one : D.tup [.int 1, .int 1] = fq 1 := rfl
    simp only [oAdd_int, wp_ok, wp_bind, ws_nx, List.set, c_l_far_5, sRet_eq, eTup_eq, aCons_eq, aNil_eq, eVar_s, eVar_0, eOp_eq, eC_eq, eCall_eq, oSub_int, bind_ok, List.length_cons, List.length_nil, z1, z2, z3, if_true, one, l_up, sb_ok, ws_rt]
    refine ⟨Pn ns p8 T, [], td [⟨1 + a, f, L⟩, ⟨200000 - w - (1 + a), L + 1, f⟩] R, by simp, kp_pen, frz_pl 40 _ (pl_td (ss := [⟨1 + a, f, L⟩, ⟨200000 - w - (1 + a), L + 1, f⟩]) (k := 31)), q _ _ _ ⟨by simp, ?_, R0, R4, by simp; omega, ?_, ?_⟩ bR (by simp; omega) (h8.mono (by omega))⟩
    · intro s hs
      simp only [List.mem_cons, List.not_mem_nil, or_false] at hs
      rcases hs with rfl | rfl
      · exact ⟨by decide, by show 1 ≤ 1 + a; omega, by show 1 + a ≤ 200000; omega, f0, by show 0 < L; grind, f4, blp⟩
      · exact ⟨by decide, by show 1 ≤ 200000 - w - (1 + a); omega, by show 200000 - w - (1 + a) ≤ 200000; omega, by show 0 < L + 1; grind, f0, bup, f4⟩
    · intro i hi hh
      have : i = 0 := by simp at hi; omega
      subst this
      simp only [List.getElem_cons_zero, List.getElem_cons_succ] at hh
      grind
    · intro _ hh
      simp only [List.getLast_cons_cons, List.getLast_singleton] at hh
      grind
/-- the j-th stretch of a wide one -/
def Wd (q : Rat) (ss : List St) : Prop := ∀ (i : Nat) (h : i < ss.length), 1 ≤ ss[i].m ∧ ss[i].m ≤ 8000 ∧ ss[i].f = q + ((i : Int) : Rat) ∧ ss[i].l = q + (((i : Int) + 2 : Int) : Rat)
theorem sum_le {ss : List St} {c : Int} (h : ∀ s ∈ ss, s.m ≤ c) : (ss.map St.m).sum ≤ c * ss.length := by
  induction ss with
  | nil => simp
  | cons s ss ih =>
    have h1 := h s (by simp)
    have h2 := ih (fun t ht => h t (by simp [ht]))
    rw [List.map_cons, List.sum_cons, List.length_cons]
    have e : c * ((ss.length + 1 : Nat) : Int) = c * ss.length + c := by
      rw [Int.natCast_add, Int.mul_add]; simp
    omega
theorem sum_ge {ss : List St} (h : ∀ s ∈ ss, 1 ≤ s.m) : (ss.length : Int) ≤ (ss.map St.m).sum := by
  induction ss with
  | nil => simp
  | cons s ss ih =>
    have h1 := h s (by simp)
    have h2 := ih (fun t ht => h t (by simp [ht]))
    rw [List.map_cons, List.sum_cons, List.length_cons]
    omega
theorem wp_wide (h : Pk p k) (hk : k + 100 ≤ 1000000000000) (q : ∀ ss R p', Tok 40 ss R → Bq 30 R → 17 ≤ sm ss → Pk p' (k + 100) → Q (td ss R) (Pn ns p' T)) : Wp (F_l_wide [.ob 0] (Pn ns p T)) Q E := by
  have z0 : szOk 0 = true := gd_of (by decide)
  have z2 : szOk (0 + 1 + 1) = true := gd_of (by decide)
  have z3 : szOk (0 + 1 + 1 + 1) = true := gd_of (by decide)
  refine wp_run ?_
  show Ws (b_l_wide [some (.ob 0), none, none, none, none] (Pn ns p T)) _
  unfold b_l_wide
  refine ws_seq ?_
  simp only [c_l_wide_0, sPar_eq, eCall_eq, aCons_eq, aNil_eq, eVar_0, bind_ok, ws_sb, wp_bind]
  refine wp_above h (by omega) fun q0 p1 q00 bq h1 => ?_
  simp only [wp_ok, wp_bind, eLstS_eq, aNil_eq, bind_ok, List.length_nil, z0, if_true, ws_sb, ws_nx, List.set, pn_app, pn_len]
  refine ws_seq ?_
  have g62 : ∀ d : Int, 0 ≤ d → d < 8 → gd (-(2 ^ 62) ≤ 17 + d ∧ 17 + d < 2 ^ 62) = true := fun d a b => gd_of (by omega)
  simp only [c_l_wide_1, sFor, iRng_eq, aCons_eq, aNil_eq, eOp_eq, eC_eq, eCall_eq, eVar_s, eVar_0, bind_ok, ws_sb, wp_bind]
  refine wp_draw h1 (by omega) (by omega) (by omega) fun d p2 d0 d1 h2 => ?_
  obtain ⟨j, rfl⟩ : ∃ j : Nat, d = j := ⟨d.toNat, (Int.toNat_of_nonneg d0).symm⟩
  simp only [oAdd_int, wp_ok, wp_bind, bind_ok, g62 _ d0 d1, if_true, Itd.size]
  have tn : (17 + (j : Int)).toNat = 17 + j := by omega
  rw [tn]
  refine ws_forGo (n := 17 + j) (xs := fun i => .int (0 + (i : Nat))) (fun i ρ S => ∃ x3 x4 ss p', ρ = [some (.ob 0), some (fq q0), some (.ob (T.length + 1)), x3, x4] ∧ S = Ps ns p' T ss ∧ Wd q0 ss ∧ ss.length = i ∧ Pk p' (k + 4 + 2 * i)) ?_ ?_ ?_ _ _ _ _ (by omega) (by omega) ⟨none, none, [], p2, rfl, rfl, fun i h => by simp at h, rfl, h2.mono (by omega)⟩
  · intro i ρ S hi _
    exact isRng 0 (17 + j) S i hi
  · rintro i ρ S hi ⟨x3, x4, ss, p', rfl, rfl, g, hn, hp⟩
    refine ⟨_, put_nm _ _ _ _, ?_⟩
    simp only [List.set, Int.zero_add]
    refine ws_seq ?_
    simp only [c_l_wide_1_0, sAsg_nm, eOp_eq, eC_eq, eCall_eq, eLst_eq, aCons_eq, aNil_eq, eVar_s, eVar_0, bind_ok, List.length_cons, List.length_nil, z2, if_true, ws_sb, wp_bind]
    refine wp_draw hp (by omega) (by decide) (by decide) fun a p3 a0 a1 h3 => ?_
    obtain ⟨v, hv, ev⟩ := atI_mem (l := [D.int 5, .int 8000]) a0 (by simpa using a1)
    obtain ⟨w, rfl, w1, w2⟩ : ∃ w : Int, v = .int w ∧ 1 ≤ w ∧ w ≤ 8000 := by
      simp only [List.mem_cons, List.not_mem_nil, or_false] at hv
      rcases hv with rfl | rfl <;> exact ⟨_, rfl, by decide, by decide⟩
    simp only [oIx_lst, ev, wp_ok, wp_bind, bind_ok]
    refine wp_draw h3 (by omega) (by omega) (by omega) fun u p4 u0 u1 h4 => ?_
    simp only [oAdd_int, wp_ok, wp_bind, bind_ok, ws_nx, List.set]
    have b1 : Bq 10 (((i : Int)) : Rat) := Bq_int (by omega) (by decide)
    have b2 : Bq 10 (((i : Int) + 2 : Int) : Rat) := Bq_int (by omega) (by decide)
    have e1 := fun S => l_add_ok bq b1 (by decide) S
    have e2 := fun S => l_add_ok bq b2 (by decide) S
    have ap := eApp_at (a := eVar 2) (b := eTup (aCons (eVar 4) (aCons (eCall F_l_add (aCons (eVar 1) (aCons (eTup (aCons (eVar 3) (aCons (eC (.int 1)) aNil))) aNil))) (aCons (eCall F_l_add (aCons (eVar 1) (aCons (eTup (aCons (eOp oAdd (eVar 3) (eC (.int 2))) (aCons (eC (.int 1)) aNil))) aNil))) aNil))))
      (ρ := [some (.ob 0), some (fq q0), some (.ob (T.length + 1)), some (.int i), some (.int (1 + u))]) (S := Ps ns p4 T ss) (S2 := Ps ns p4 T ss) (d := sd ⟨1 + u, q0 + ((i : Int) : Rat), q0 + (((i : Int) + 2 : Int) : Rat)⟩) rfl ps_at (by
        simp only [eTup_eq, aCons_eq, aNil_eq, eCall_eq, eOp_eq, eC_eq, eVar_s, eVar_0, bind_ok, oAdd_int, List.length_cons, List.length_nil, z2, z3, if_true, fq_int, e1, e2]
        rfl) ps_at (by rw [List.length_map]; omega)
    rw [ps_push] at ap
    have : c_l_wide_1_1 [some (.ob 0), some (fq q0), some (.ob (T.length + 1)), some (.int i), some (.int (1 + u))] (Ps ns p4 T ss) = .nx [some (.ob 0), some (fq q0), some (.ob (T.length + 1)), some (.int i), some (.int (1 + u))] (Ps ns p4 T (ss ++ [⟨1 + u, q0 + ((i : Int) : Rat), q0 + (((i : Int) + 2 : Int) : Rat)⟩])) := by
      simp only [c_l_wide_1_1, sExpr_eq, ap, sb_ok]
    rw [this]
    refine ⟨_, _, _, p4, rfl, rfl, ?_, by simp [hn], h4.mono (by omega)⟩
    intro x hx
    rw [List.length_append, List.length_singleton] at hx
    by_cases hh : x < ss.length
    · rw [List.getElem_append_left hh]; exact g x hh
    · have : x = i := by omega
      subst this
      rw [List.getElem_append_right (by omega)]
      simp only [hn, Nat.sub_self, List.getElem_cons_zero]
      exact ⟨by omega, by omega, trivial, trivial⟩
  · rintro ρ S ⟨x3, x4, ss, p', rfl, rfl, g, hn, hp⟩
    have all : ∀ s ∈ ss, Sok 40 s ∧ s.m ≤ 8000 := by
      intro s hs
      obtain ⟨i, hi, rfl⟩ := List.getElem_of_mem hs
      obtain ⟨g1, g2, g4, g5⟩ := g i hi
      have ci : (0 : Rat) ≤ ((i : Int) : Rat) := cnn (by omega)
      have ci2 : (0 : Rat) ≤ (((i : Int) + 2 : Int) : Rat) := cnn (by omega)
      exact ⟨⟨by decide, g1, by omega, by rw [g4]; grind, by rw [g5]; grind, by rw [g4]; exact Bq_addi bq (by omega) (by omega), by rw [g5]; exact Bq_addi bq (by omega) (by omega)⟩, g2⟩
    have hs := sum_le (fun s hs => (all s hs).2)
    have hg := sum_ge (fun s hs => (all s hs).1.m1)
    simp only [c_l_wide_2, sRet_eq, eTup_eq, aCons_eq, aNil_eq, eB_eq, eVar_s, eVar_0, bind_ok, cTuple_ob ps_at, List.length_cons, List.length_nil, z2, if_true, sb_ok, ws_rt]
    refine ⟨Pn ns p' T, [.lst (ss.map sd)], td ss q0, rfl, kp_pen, frz_pl 40 _ pl_td, q _ _ _ ⟨by omega, fun s hs => (all s hs).1, q00, bq.mono (by decide), by omega, ?_, ?_⟩ bq (by show 17 ≤ (ss.map St.m).sum; omega) (hp.mono (by omega))⟩
    · intro i hi hh
      have a := (g i (by omega)).2.2.2
      have b := (g (i + 1) hi).2.2.1
      have := hh.1
      rw [a, b] at this
      have : ((((i : Int) + 2 : Int)) : Rat) = (((i + 1 : Nat) : Int) : Rat) := by grind
      have := Rat.intCast_inj.mp this
      omega
    · intro he hh
      have hp : 0 < ss.length := List.length_pos_iff.mpr he
      obtain ⟨_, _, a, b⟩ := g (ss.length - 1) (by omega)
      rw [List.getLast_eq_getElem] at hh
      rw [a, b] at hh
      have : (((ss.length - 1 : Nat) : Int) : Rat) = (((((ss.length - 1 : Nat) : Int) + 2 : Int)) : Rat) := by grind
      have := Rat.intCast_inj.mp this
      omega
end
end Fx
set_option Elab.async false
set_option linter.all false
set_option maxRecDepth 100000
set_option exponentiation.threshold 20000
/-! the laws' places; what rises -/
namespace Fx
open PySem L2 DV
/-- a fraction from 0 on, small -/
def Sm0 (q : Rat) : Prop := 0 ≤ q ∧ Bq 60 q
theorem Sm0.int {i : Int} (h0 : 0 ≤ i) (h1 : i < 2 ^ 40) : Sm0 (i : Rat) := ⟨cnn h0, Bq_int (pow_mono (n := 40) (by omega) (by decide)) (by decide)⟩
theorem frac_nn {a b : Int} (ha : 0 ≤ a) (hb : 0 < b) : 0 ≤ Rat.divInt a b := by
  rw [divInt_div]
  have h1 := cnn ha
  have h2 := cpos hb
  have hd : (a : Rat) / (b : Rat) * (b : Rat) = (a : Rat) := by grind
  refine Rat.not_lt.mp fun hn => ?_
  have := Rat.mul_pos (a := -((a : Rat) / (b : Rat))) (by grind) h2
  grind
theorem Sm0.add {i a b : Int} (h0 : 0 ≤ i) (h1 : i < 2 ^ 20) (ha : 0 ≤ a) (hb : 0 < b) (ha2 : a < 2 ^ 20) (hb2 : b < 2 ^ 20) : Sm0 ((i : Rat) + Rat.divInt a b) := by
  refine ⟨?_, (Bq_add (n := 20) (m := 20) (Bq_int (by omega) (by decide)) (Bq_divInt (by omega) (by omega) (by omega))).mono (by decide)⟩
  have := cnn h0
  have := frac_nn ha hb
  grind
section
variable {ns : List Int} {p : Int × Int} {T E' : Sto} {k n m : Nat} {Q : D → Sto → Prop} {E : Str → Sto → Prop} {R : Rat} {N : Pq} {ss : List St} {M : Int}
theorem pow6 (S : Sto) : oPow (.int 10) (.int 6) S = .ok (.int 1000000) S := oPow_int S (by decide)
/-- fractions under way, at the store's end -/
abbrev Pq' (ns : List Int) (p : Int × Int) (Y : Sto) (qs : List Rat) : Sto := Pn ns p (Y ++ [.lst (qs.map fq)])
theorem pq_at {Y : Sto} {qs : List Rat} : (Pq' ns p Y qs)[Y.length + 1]? = some (.lst (qs.map fq)) := pn_at
theorem pq_push {Y : Sto} {qs : List Rat} {q : Rat} : (Pq' ns p Y qs).set (Y.length + 1) (.lst (qs.map fq ++ [fq q])) = Pq' ns p Y (qs ++ [q]) := by
  rw [pn_set]
  show _ = Pn ns p (Y ++ [.lst ((qs ++ [q]).map fq)])
  rw [List.map_append]; rfl
theorem pq_app {Y : Sto} {qs rs : List Rat} (h : qs.length + rs.length ≤ 1000000) : oAddS (.ob (Y.length + 1)) (.lst (rs.map fq)) (Pq' ns p Y qs) = .ok (.ob ((Y ++ [O.lst (qs.map fq)]).length + 1)) (Pq' ns p (Y ++ [O.lst (qs.map fq)]) (qs ++ rs)) := by
  have zz : szOk ((qs.map fq).length + (rs.map fq).length) = true := gd_of (by simpa using h)
  simp only [oAddS, catD, lstOf_ob pq_at, lstOf_lst, zz, if_true]
  congr 1
  show Pn ns p ((Y ++ [O.lst (qs.map fq)]) ++ [_]) = Pn ns p ((Y ++ [O.lst (qs.map fq)]) ++ [_])
  rw [List.map_append]
theorem edges_last' (ss : List St) (S : Sto) : oIx (.lst ((edges ss).map D.int)) (.int (-1)) S = .ok (.int (sm ss)) S := by
  have he : edges ss ≠ [] := by
    intro e
    have := edges_len (ss := ss)
    rw [e] at this
    simp at this
  have l := edges_last (ss := ss)
  rw [List.getLast?_eq_some_getLast he] at l
  rw [oIx_lst, at_last (g := D.int) he, Option.some.inj l]
/-- a drawn edge -/
theorem wp_edge {K : D → Sto → Prop} {B : Nat} (h : Pk p k) (hk : k + 1 ≤ 1000000000000) (hl : ss.length ≤ 1000) (hs : ∀ s ∈ ss, Sok B s) (hsm : sm ss ≤ 200000)
    (q : ∀ v p', 0 ≤ v → v ≤ 200000 → Pk p' (k + 1) → K (.int v) (Pn ns p' T)) :
    Wp (F_l_draw [.ob 0, .int ((edges ss).length : Nat)] (Pn ns p T)) (fun d S => Wp (oIx (.lst ((edges ss).map D.int)) d S) K E) E := by
  refine wp_draw h (by omega) (by rw [edges_len]; omega) (by rw [edges_len]; omega) fun a p' a0 a1 h' => ?_
  obtain ⟨v, hv, ev⟩ := atI_mem (l := (edges ss).map D.int) a0 (by simpa using a1)
  obtain ⟨x, hx, rfl⟩ := List.mem_map.mp hv
  simp only [oIx_lst, ev, wp_ok]
  have := edges_mem hs x hx
  exact q _ _ this.1 (by omega) h'
theorem wp_fplaces (h : Pk p k) (hk : k + 20 ≤ 1000000000000) (ht : Tok 40 ss R) (q : ∀ (qs : List Rat) (p' : Int × Int), (∀ q ∈ qs, Sm0 q) → qs.length = 7 → Pk p' (k + 20) → Q (.lst (qs.map fq)) (Pn ns p' T)) : Wp (F_l_places [.ob 0, td ss R] (Pn ns p T)) Q E := by
  have z2 : szOk (0 + 1 + 1) = true := gd_of (by decide)
  have z3 : szOk (0 + 1 + 1 + 1) = true := gd_of (by decide)
  have n24 := ht.n24
  have sm2 : sm ss ≤ 200000 := ht.sum
  have sm0 := sm_nonneg ht.all
  have ed := fun S => l_edges_ok (R := R) ht.all (by omega) S
  have low : ∀ (a b : Int) (S : Sto), 0 ≤ a → 0 < b → a < 2 ^ 30 → b < 2 ^ 30 → F_l_low [.int a, .int b] S = .ok (fq (Rat.divInt a b)) S := fun a b S ha hb ha2 hb2 => l_low_ok S (by omega) (pow_mono (n := 30) (by omega) (by decide)) (pow_mono (n := 30) (by omega) (by decide))
  have add : ∀ (i a b : Int) (S : Sto), 0 ≤ i → i < 2 ^ 20 → 0 ≤ a → 0 < b → a < 2 ^ 20 → b < 2 ^ 20 → F_l_add [fq (i : Rat), fq (Rat.divInt a b)] S = .ok (fq ((i : Rat) + Rat.divInt a b)) S := fun i a b S h0 h1 ha hb ha2 hb2 =>
    l_add_ok (n := 20) (m := 20) (Bq_int (by omega) (by decide)) (Bq_divInt (by omega) (by omega) (by omega)) (by decide) S
  refine wp_run ?_
  show Ws (b_l_places [some (.ob 0), some (td ss R), none, none, none] (Pn ns p T)) _
  unfold b_l_places
  refine ws_step (ρ' := [some (.ob 0), some (td ss R), some (.lst ((edges ss).map D.int)), none, none]) (S' := Pn ns p T) (by
    simp only [c_l_places_0, sAsg_nm, eCall_eq, aCons_eq, aNil_eq, eVar_s, eVar_0, bind_ok, ed, sb_ok, List.set]) ?_
  refine ws_seq ?_
  simp only [c_l_places_1, sAsg_nm, eOp_eq, eCall_eq, eB_eq, aCons_eq, aNil_eq, eC_eq, eVar_s, eVar_0, bind_ok, cLen_lst, List.length_map, ws_sb, wp_bind]
  refine wp_edge h (by omega) (by omega) ht.all sm2 fun v p1 v0 v1 h1 => ?_
  simp only [wp_bind, bind_ok, ws_sb]
  refine wp_draw h1 (by omega) (by decide) (by decide) fun u p2 u0 u1 h2 => ?_
  simp only [oAdd_int, wp_ok, ws_nx, List.set]
  refine ws_seq ?_
  obtain ⟨st, hst⟩ : ∃ st, st = v + u := ⟨_, rfl⟩
  rw [← hst]
  simp only [c_l_places_2, sAsg_nm, eLstS_eq, aCons_eq, aNil_eq, eTup_eq, eOp_eq, eCall_eq, eC_eq, eVar_s, eVar_0, bind_ok, List.length_cons, List.length_nil, z2, if_true, ws_sb, wp_bind]
  refine wp_draw h2 (by omega) (by decide) (by decide) fun a p3 a0 a1 h3 => ?_
  have l1 := fun S => low (1 + a) 7 S (by omega) (by decide) (by omega) (by decide)
  have a1' := fun S => add st (1 + a) 7 S (by omega) (by omega) (by omega) (by decide) (by omega) (by decide)
  have s1 := Sm0.add (i := st) (a := 1 + a) (b := 7) (by omega) (by omega) (by omega) (by decide) (by omega) (by decide)
  obtain ⟨q1, hq1⟩ : ∃ q1, q1 = (st : Rat) + Rat.divInt (1 + a) 7 := ⟨_, rfl⟩
  rw [← hq1] at s1
  simp only [← hq1] at a1'
  have s0 : Sm0 (st : Rat) := Sm0.int (by omega) (by omega)
  have fq0' : D.tup [.int 0, .int 1] = fq 0 := rfl
  simp only [oAdd_int, wp_ok, wp_bind, bind_ok, l1, fq_int, a1', List.length_cons, List.length_nil, z2, z3, if_true, ws_sb, ws_nx, List.set, pn_app, pn_len]
  refine ws_seq ?_
  show Ws (c_l_places_3 [some (.ob 0), some (td ss R), some (.lst ((edges ss).map D.int)), some (.int st), some (.ob (T.length + 1))] (Pq' ns p3 T [q1, 0, (st : Rat)])) _
  simp only [c_l_places_3, sExpr_eq, eApp_eq, eVar_s, eVar_0, bind_ok, pq_at, eCall_eq, aCons_eq, aNil_eq, eTup_eq, eOp_eq, eC_eq, List.length_cons, List.length_nil, z2, if_true, ws_sb, wp_bind]
  refine wp_draw h3 (by omega) (by decide) (by decide) fun b p4 b0 b1 h4 => ?_
  have l2 := fun S => low (1 + b) 11 S (by omega) (by decide) (by omega) (by decide)
  have a2' := fun S => add st (1 + b) 11 S (by omega) (by omega) (by omega) (by decide) (by omega) (by decide)
  have s2 := Sm0.add (i := st) (a := 1 + b) (b := 11) (by omega) (by omega) (by omega) (by decide) (by omega) (by decide)
  obtain ⟨q2, hq2⟩ : ∃ q2, q2 = (st : Rat) + Rat.divInt (1 + b) 11 := ⟨_, rfl⟩
  rw [← hq2] at s2
  simp only [← hq2] at a2'
  have zl : ∀ l : List Rat, l.length ≤ 100 → szOk (l.map fq).length = true := fun l h => gd_of (by rw [List.length_map]; omega)
  have e1 := zl [q1, 0, (st : Rat)] (by simp)
  simp only [oAdd_int, wp_ok, wp_bind, bind_ok, l2, fq_int, a2', List.length_cons, List.length_nil, z2, if_true, pq_at, e1, pq_push, ws_sb, ws_nx]
  refine ws_seq ?_
  simp only [c_l_places_4, sAsg_nm, eOp_eq, eLst_eq, aCons_eq, aNil_eq, eTup_eq, eCall_eq, eB_eq, eC_eq, eNeg_eq, eVar_s, eVar_0, bind_ok, cLen_lst, List.length_map, edges_last', pow6, List.length_cons, List.length_nil, z2, if_true, ws_sb, wp_bind]
  refine wp_edge h4 (by omega) (by omega) ht.all sm2 fun w p5 w0 w1 h5 => ?_
  simp only [wp_ok, wp_bind, bind_ok, List.length_cons, List.length_nil, z2, if_true]
  refine wp_draw h5 (by omega) (by decide) (by decide) fun c p6 c0 c1 h6 => ?_
  have pa := pq_app (ns := ns) (p := p6) (Y := T) (qs := [q1, 0, (st : Rat)] ++ [q2]) (rs := [(w : Rat), ((sm ss + c : Int) : Rat)]) (by simp)
  have rs : D.lst [fq (w : Rat), fq ((sm ss + c : Int) : Rat)] = .lst ([(w : Rat), ((sm ss + c : Int) : Rat)].map fq) := rfl
  simp only [oAdd_int, wp_ok, wp_bind, bind_ok, List.length_cons, List.length_nil, z2, if_true, fq_int, rs, pa, ws_sb, ws_nx, List.set]
  refine ws_seq ?_
  have g97 : mulOk 97 (sm ss) = true := mulOk_of (a := 20) (b := 20) (by decide) (by omega) (by decide)
  simp only [c_l_places_5, sExpr_eq, eApp_eq, eVar_s, eVar_0, bind_ok, pq_at, eCall_eq, aCons_eq, aNil_eq, eOp_eq, eC_eq, eNeg_eq, edges_last', oMul_int _ g97, oAdd_int, ws_sb, wp_bind]
  refine wp_draw h6 (by omega) (by omega) (by omega) fun g p7 g0 g1 h7 => ?_
  have l3 := fun S => low g 97 S g0 (by decide) (by omega) (by decide)
  have s3 : Sm0 (Rat.divInt g 97) := ⟨frac_nn g0 (by decide), (Bq_divInt (n := 40) (by decide) (by omega) (by decide)).mono (by decide)⟩
  have e2 := zl ([q1, 0, (st : Rat)] ++ [q2] ++ [(w : Rat), ((sm ss + c : Int) : Rat)]) (by simp)
  simp only [wp_ok, wp_bind, bind_ok, l3, pq_at, e2, if_true, pq_push, ws_sb, ws_nx]
  simp only [c_l_places_6, sRet_eq, eVar_s, eVar_0, sb_ok, ws_rt]
  obtain ⟨qs, hqs⟩ : ∃ qs, qs = [q1, 0, (st : Rat)] ++ [q2] ++ [(w : Rat), ((sm ss + c : Int) : Rat)] ++ [Rat.divInt g 97] := ⟨_, rfl⟩
  rw [← hqs]
  refine ⟨Pn ns p7 T, [O.lst (([q1, 0, (st : Rat)] ++ [q2]).map fq)] ++ [.lst (qs.map fq)], .lst (qs.map fq), ?_, kp_pen, ?_, q qs p7 ?_ (by rw [hqs]; rfl) (h7.mono (by omega))⟩
  · show Pn ns p7 (T ++ _ ++ [_]) = Pn ns p7 (T ++ (_ ++ [_]))
    rw [List.append_assoc]
  · have lt : ¬ (T ++ [O.lst (([q1, 0, (st : Rat)] ++ [q2]).map fq)]).length + 1 < (Pn ns p T).length := by rw [pn_len, List.length_append]; omega
    have pl : Pls 39 (qs.map fq) := pls_iff.mpr fun d hd => by obtain ⟨q, _, rfl⟩ := List.mem_map.mp hd; exact pl_fq
    simp only [frz, lt, if_false, pq_at, frzs_pl 39 _ pl, Option.map_some]
  · intro x hx
    rw [hqs] at hx
    simp only [List.mem_append, List.mem_cons, List.not_mem_nil, or_false] at hx
    have sz : Sm0 0 := ⟨by grind, by decide, by decide⟩
    rcases hx with (((rfl | rfl | rfl) | rfl) | (rfl | rfl)) | rfl
    · exact s1
    · exact sz
    · exact s0
    · exact s2
    · exact Sm0.int (by omega) (by omega)
    · exact Sm0.int (by omega) (by omega)
    · exact s3
/-- what rises, and its images -/
theorem rising_ok {zs : List Rat} {b : Nat} (f : Rat → Rat) (hb : b ≤ 6000) (hl : zs.length ≤ 1000000) (h1 : ∀ z ∈ zs, Bq b z) (h2 : ∀ z ∈ zs, Bq b (f z)) (h3 : ∀ x ∈ zs, ∀ y ∈ zs, (x < y) = (f x < f y)) (h4 : ∀ x ∈ zs, ∀ y ∈ zs, (x = y) = (f x = f y)) (S : Sto) :
    F_l_rising [.lst (zs.map fq), .lst ((zs.map f).map fq)] S = .ok (.bl true) S := by
  have hz : ∀ S, It.Is (.zipV (zs.map fq) ((zs.map f).map fq)) zs.length (fun i => .tup [(zs.map fq)[i]?.getD .non, ((zs.map f).map fq)[i]?.getD .non]) S := fun S => by
    have := isZipV (zs.map fq) ((zs.map f).map fq) S (by simp)
    simpa using this
  have inner : ∀ (x : Rat), x ∈ zs → ∀ S o4 o5, ∃ o4' o5', c_l_rising_0_0 [some (.lst (zs.map fq)), some (.lst ((zs.map f).map fq)), some (fq x), some (fq (f x)), o4, o5] S = .nx [some (.lst (zs.map fq)), some (.lst ((zs.map f).map fq)), some (fq x), some (fq (f x)), o4', o5'] S := by
    intro x hx S o4 o5
    have w : Ws (c_l_rising_0_0 [some (.lst (zs.map fq)), some (.lst ((zs.map f).map fq)), some (fq x), some (fq (f x)), o4, o5] S) ⟨fun ρ S' => S' = S ∧ ∃ o4' o5', ρ = [some (.lst (zs.map fq)), some (.lst ((zs.map f).map fq)), some (fq x), some (fq (f x)), o4', o5'], fun _ _ => False, fun _ _ _ => False, fun _ _ => False, fun _ _ => False⟩ := by
      refine ws_for (n := zs.length) (xs := fun i => .tup [(zs.map fq)[i]?.getD .non, ((zs.map f).map fq)[i]?.getD .non]) (S1 := S) (it := .zipV (zs.map fq) ((zs.map f).map fq)) (by simp) (fun i ρ S' => S' = S ∧ ∃ o4' o5', ρ = [some (.lst (zs.map fq)), some (.lst ((zs.map f).map fq)), some (fq x), some (fq (f x)), o4', o5']) (by simp [Itd.size]) (fun i ρ S' hi _ => hz S' i hi) ⟨rfl, _, _, rfl⟩ ?_ fun ρ S' h => h
      rintro i ρ S' hi ⟨rfl, o4', o5', rfl⟩
      have e1 : (zs.map fq)[i]?.getD .non = fq zs[i] := by simp [hi]
      have e2 : ((zs.map f).map fq)[i]?.getD .non = fq (f zs[i]) := by simp [hi]
      have hy := List.getElem_mem hi
      generalize zs[i] = y at e1 e2 hy
      refine ⟨[some (.lst (zs.map fq)), some (.lst ((zs.map f).map fq)), some (fq x), some (fq (f x)), some (fq y), some (fq (f y))], by rw [e1, e2]; simp, ?_⟩
      have l1 := fun S => l_less_ok (h1 x hx) (h1 y hy) (by omega) S
      have l2 := fun S => l_less_ok (h2 x hx) (h2 y hy) (by omega) S
      have r3 := h3 x hx y hy
      have r4 := h4 x hx y hy
      have : c_l_rising_0_0_0 [some (.lst (zs.map fq)), some (.lst ((zs.map f).map fq)), some (fq x), some (fq (f x)), some (fq y), some (fq (f y))] S' = .nx [some (.lst (zs.map fq)), some (.lst ((zs.map f).map fq)), some (fq x), some (fq (f x)), some (fq y), some (fq (f y))] S' := by
        simp only [c_l_rising_0_0_0, sIf_eq, bOr_eq, tTru_eq, eOp_eq, eCall_eq, aCons_eq, aNil_eq, eVar_s, eVar_0, bind_ok, l1, l2, r3, r4, oEq_fq, oNe_bl2, bne_self_eq_false, truD_bl, Bool.false_eq_true, if_false, sb_ok, sNil_eq]
      rw [this]
      exact ⟨rfl, _, _, rfl⟩
    cases e : c_l_rising_0_0 [some (.lst (zs.map fq)), some (.lst ((zs.map f).map fq)), some (fq x), some (fq (f x)), o4, o5] S with
    | nx ρ S' =>
      rw [e] at w
      obtain ⟨rfl, o4', o5', rfl⟩ := w
      exact ⟨_, _, rfl⟩
    | _ => rw [e] at w; exact w.elim
  refine eq_of_wp (wp_run ?_)
  show Ws (b_l_rising [some (.lst (zs.map fq)), some (.lst ((zs.map f).map fq)), none, none, none, none] S) _
  unfold b_l_rising
  refine ws_seq ?_
  refine ws_for (n := zs.length) (xs := fun i => .tup [(zs.map fq)[i]?.getD .non, ((zs.map f).map fq)[i]?.getD .non]) (S1 := S) (it := .zipV (zs.map fq) ((zs.map f).map fq)) (by simp) (fun i ρ S' => S' = S ∧ ∃ o2 o3 o4 o5, ρ = [some (.lst (zs.map fq)), some (.lst ((zs.map f).map fq)), o2, o3, o4, o5]) (by simp [Itd.size]) (fun i ρ S' hi _ => hz S' i hi) ⟨rfl, _, _, _, _, rfl⟩ ?_ ?_
  · rintro i ρ S' hi ⟨rfl, o2, o3, o4, o5, rfl⟩
    have e1 : (zs.map fq)[i]?.getD .non = fq zs[i] := by simp [hi]
    have e2 : ((zs.map f).map fq)[i]?.getD .non = fq (f zs[i]) := by simp [hi]
    refine ⟨[some (.lst (zs.map fq)), some (.lst ((zs.map f).map fq)), some (fq zs[i]), some (fq (f zs[i])), o4, o5], by rw [e1, e2]; simp, ?_⟩
    obtain ⟨o4', o5', e⟩ := inner _ (List.getElem_mem hi) S' o4 o5
    rw [e]
    exact ⟨rfl, _, _, _, _, rfl⟩
  · rintro ρ S' ⟨rfl, o2, o3, o4, o5, rfl⟩
    simp only [c_l_rising_1, sRet_eq, eC_eq, sb_ok, ws_rt]
    exact end_pure0 (E := nE) (by simp [Pl]) ⟨rfl, rfl⟩
end
end Fx
set_option Elab.async false
set_option linter.all false
set_option maxRecDepth 100000
set_option exponentiation.threshold 20000
/-! things of any kind: what the program's own looks tell of them -/
namespace Fx
open PySem L2 DV
/-- by value, of the plain kinds, so deep at most, numbers of so many bits -/
def Ay (n w : Nat) : Nat → D → Prop
  | 0, _ => False
  | k + 1, .tup xs => xs.length ≤ w ∧ ∀ d ∈ xs, Ay n w k d
  | k + 1, .lst xs => xs.length ≤ w ∧ ∀ d ∈ xs, Ay n w k d
  | _ + 1, .dct kvs => kvs = []
  | _ + 1, .non => True
  | _ + 1, .bl _ => True
  | _ + 1, .int i => i.natAbs < 2 ^ n
  | _ + 1, .str s => s.length ≤ 1000 ∧ PyData.strOk s = true
  | _ + 1, _ => False
section
variable {n m k j w : Nat} {d : D} {S : Sto} {xs : List D}
theorem Ay.up : ∀ {k : Nat} {d : D}, Ay n w k d → Ay n w (k + 1) d
  | 0, _, h => by simp [Ay] at h
  | k + 1, .tup xs, h => by simp only [Ay] at h ⊢; exact ⟨h.1, fun d hd => (h.2 d hd).up⟩
  | k + 1, .lst xs, h => by simp only [Ay] at h ⊢; exact ⟨h.1, fun d hd => (h.2 d hd).up⟩
  | _ + 1, .dct _, h => h
  | _ + 1, .non, _ => trivial
  | _ + 1, .bl _, _ => trivial
  | _ + 1, .int _, h => h
  | _ + 1, .str _, h => h
  | _ + 1, .ob _, h => h.elim
  | _ + 1, .dtt _, h => h.elim
  | _ + 1, .ins _ _ _, h => h.elim
  | _ + 1, .exc _, h => h.elim
  | _ + 1, .ro _, h => h.elim
  | _ + 1, .gl _, h => h.elim
theorem Ay.le (h : Ay n w k d) (hj : k ≤ j) : Ay n w j d := by
  induction hj with
  | refl => exact h
  | step _ ih => exact ih.up
theorem Ay.bits (hm : n ≤ m) : ∀ {k : Nat} {d : D}, Ay n w k d → Ay m w k d
  | 0, _, h => by simp [Ay] at h
  | k + 1, .tup xs, h => by simp only [Ay] at h ⊢; exact ⟨h.1, fun d hd => (h.2 d hd).bits hm⟩
  | k + 1, .lst xs, h => by simp only [Ay] at h ⊢; exact ⟨h.1, fun d hd => (h.2 d hd).bits hm⟩
  | _ + 1, .dct _, h => h
  | _ + 1, .non, _ => trivial
  | _ + 1, .bl _, _ => trivial
  | _ + 1, .int _, h => pow_mono h hm
  | _ + 1, .str _, h => h
  | _ + 1, .ob _, h => h.elim
  | _ + 1, .dtt _, h => h.elim
  | _ + 1, .ins _ _ _, h => h.elim
  | _ + 1, .exc _, h => h.elim
  | _ + 1, .ro _, h => h.elim
  | _ + 1, .gl _, h => h.elim
theorem Ay.mono {v : Nat} (hv : w ≤ v) : ∀ {k : Nat} {d : D}, Ay n w k d → Ay n v k d
  | 0, _, h => by simp [Ay] at h
  | k + 1, .tup xs, h => by simp only [Ay] at h ⊢; exact ⟨by omega, fun d hd => (h.2 d hd).mono hv⟩
  | k + 1, .lst xs, h => by simp only [Ay] at h ⊢; exact ⟨by omega, fun d hd => (h.2 d hd).mono hv⟩
  | _ + 1, .dct _, h => h
  | _ + 1, .non, _ => trivial
  | _ + 1, .bl _, _ => trivial
  | _ + 1, .int _, h => h
  | _ + 1, .str _, h => h
  | _ + 1, .ob _, h => h.elim
  | _ + 1, .dtt _, h => h.elim
  | _ + 1, .ins _ _ _, h => h.elim
  | _ + 1, .exc _, h => h.elim
  | _ + 1, .ro _, h => h.elim
  | _ + 1, .gl _, h => h.elim
theorem Ay.pl : ∀ {k : Nat} {d : D}, Ay n w k d → Pl (k + k) d
  | 0, _, h => by simp [Ay] at h
  | k + 1, .tup xs, h => by
    simp only [Ay] at h
    rw [show k + 1 + (k + 1) = (k + k + 1) + 1 by omega]
    simp only [Pl]
    exact pls_iff.mpr fun d hd => (h.2 d hd).pl
  | k + 1, .lst xs, h => by
    simp only [Ay] at h
    rw [show k + 1 + (k + 1) = (k + k + 1) + 1 by omega]
    simp only [Pl]
    exact pls_iff.mpr fun d hd => (h.2 d hd).pl
  | k + 1, .dct kvs, h => by
    have e : kvs = [] := h
    subst e
    rw [show k + 1 + (k + 1) = (k + k + 1) + 1 by omega]
    simp [Pl, Pls]
  | k + 1, .non, _ => by rw [show k + 1 + (k + 1) = (k + k + 1) + 1 by omega]; simp [Pl]
  | k + 1, .bl _, _ => by rw [show k + 1 + (k + 1) = (k + k + 1) + 1 by omega]; simp [Pl]
  | k + 1, .int _, _ => by rw [show k + 1 + (k + 1) = (k + k + 1) + 1 by omega]; simp [Pl]
  | k + 1, .str _, _ => by rw [show k + 1 + (k + 1) = (k + k + 1) + 1 by omega]; simp [Pl]
  | _ + 1, .ob _, h => h.elim
  | _ + 1, .dtt _, h => h.elim
  | _ + 1, .ins _ _ _, h => h.elim
  | _ + 1, .exc _, h => h.elim
  | _ + 1, .ro _, h => h.elim
  | _ + 1, .gl _, h => h.elim
theorem Ay.pl40 (h : Ay n w k d) (hk : k ≤ 18) : Pl 36 d := h.pl.le (by omega)
theorem ay_int {i : Int} (h : i.natAbs < 2 ^ n) : Ay n w (k + 1) (.int i) := h
theorem ay_tup (hl : xs.length ≤ w) (h : ∀ d ∈ xs, Ay n w k d) : Ay n w (k + 1) (.tup xs) := ⟨hl, h⟩
theorem ay_lst (hl : xs.length ≤ w) (h : ∀ d ∈ xs, Ay n w k d) : Ay n w (k + 1) (.lst xs) := ⟨hl, h⟩
theorem ay_fq {q : Rat} (h : Bq n q) (hw : 24 ≤ w) : Ay n w (k + 2) (fq q) := ay_tup (by simp; omega) fun d hd => by
  simp only [List.mem_cons, List.not_mem_nil, or_false] at hd
  rcases hd with rfl | rfl
  · exact ay_int h.1
  · exact ay_int (by rw [den_abs]; exact h.2)
theorem ay_sd {s : St} (h : Sok n s) (hn : 18 ≤ n) (hw : 24 ≤ w) : Ay n w (k + 3) (sd s) := ay_tup (by simp; omega) fun d hd => by
  have m1 := h.m1
  have m2 := h.m2
  simp only [List.mem_cons, List.not_mem_nil, or_false] at hd
  rcases hd with rfl | rfl | rfl
  · exact ay_int (pow_mono (n := 18) (by omega) hn)
  · exact ay_fq h.bf hw
  · exact ay_fq h.bl hw
theorem ay_sds {ss : List St} (h : ∀ s ∈ ss, Sok n s) (hl : ss.length ≤ w) (hn : 18 ≤ n) (hw : 24 ≤ w) : Ay n w (k + 4) (.tup (ss.map sd)) := ay_tup (by rw [List.length_map]; exact hl) fun d hd => by
  obtain ⟨s, hs, rfl⟩ := List.mem_map.mp hd
  exact ay_sd (h s hs) hn hw
theorem ay_td {ss : List St} {r : Rat} (h : Tok n ss r) (hn : 18 ≤ n) (hw : 24 ≤ w) : Ay n w (k + 5) (td ss r) := ay_tup (by simp; omega) fun d hd => by
  have := h.n24
  simp only [List.mem_cons, List.not_mem_nil, or_false] at hd
  rcases hd with rfl | rfl
  · exact ay_sds h.all (by omega) hn hw
  · exact ay_fq h.br hw
/-! ### the looks -/
def isTup (m : Nat) : D → Bool
  | .tup xs => decide (xs.length = m)
  | _ => false
theorem is_tuple_any (h : Ay n w k d) (m : Nat) (S : Sto) : F_is_tuple_of [d, .int (m : Nat)] S = .ok (.bl (isTup m d)) S := by
  unfold F_is_tuple_of b_is_tuple_of
  refine run_eq0 ?_ (by simp [Pl])
  match k, h with
  | k + 1, h =>
    cases d with
    | tup xs =>
      by_cases e : xs.length = m
      · simp [c_is_tuple_of_0, isTup, e]
      · have : ¬ ((xs.length : Nat) : Int) = (m : Int) := by omega
        simp [c_is_tuple_of_0, isTup, e, this]
    | lst xs => simp [c_is_tuple_of_0, isTup]
    | dct kvs => simp [c_is_tuple_of_0, isTup]
    | non => simp [c_is_tuple_of_0, isTup]
    | bl b => simp [c_is_tuple_of_0, isTup]
    | int i => simp [c_is_tuple_of_0, isTup]
    | str s => simp [c_is_tuple_of_0, isTup]
    | _ => exact h.elim
def isW (a b : Int) : D → Bool
  | .int i => decide (a ≤ i ∧ i ≤ b)
  | _ => false
theorem is_within_any (h : Ay n w k d) (a b : Int) (S : Sto) : F_is_whole_within [d, .int a, .int b] S = .ok (.bl (isW a b d)) S := by
  unfold F_is_whole_within b_is_whole_within
  refine run_eq0 ?_ (by simp [Pl])
  match k, h with
  | k + 1, h =>
    cases d with
    | int i =>
      by_cases h1 : a ≤ i
      · by_cases h2 : i ≤ b
        · simp [c_is_whole_within_0, isW, eChain, h1, h2]
        · simp [c_is_whole_within_0, isW, eChain, h1, h2]
      · simp [c_is_whole_within_0, isW, eChain, h1]
    | lst xs => simp [c_is_whole_within_0, isW]
    | dct kvs => simp [c_is_whole_within_0, isW]
    | non => simp [c_is_whole_within_0, isW]
    | bl b => cases b <;> simp [c_is_whole_within_0, isW]
    | tup i => simp [c_is_whole_within_0, isW]
    | str s => simp [c_is_whole_within_0, isW]
    | _ => exact h.elim
def isWh : D → Bool
  | .int _ => true
  | _ => false
theorem is_whole_any (h : Ay n w k d) (S : Sto) : F_is_whole [d] S = .ok (.bl (isWh d)) S := by
  unfold F_is_whole b_is_whole
  refine run_eq0 ?_ (by simp [Pl])
  match k, h with
  | k + 1, h =>
    cases d with
    | bl b => cases b <;> simp [c_is_whole_0, isWh]
    | tup xs => simp [c_is_whole_0, isWh]
    | lst xs => simp [c_is_whole_0, isWh]
    | dct kvs => simp [c_is_whole_0, isWh]
    | non => simp [c_is_whole_0, isWh]
    | int i => simp [c_is_whole_0, isWh]
    | str s => simp [c_is_whole_0, isWh]
    | _ => exact h.elim
def isFr : D → Bool
  | .tup [.int a, .int b] => decide (b = 1 ∨ (1 < b ∧ Nat.gcd a.natAbs b.natAbs = 1))
  | _ => false
theorem isFr_fq (q : Rat) : isFr (fq q) = true := by
  have r : (q.num.natAbs.gcd q.den) = 1 := q.reduced
  have d := q.den_nz
  show decide _ = true
  refine decide_eq_true ?_
  by_cases h : q.den = 1
  · left; omega
  · right; exact ⟨by omega, by rw [den_abs]; exact r⟩
theorem isFr_ex {d : D} (h : isFr d = true) : ∃ q : Rat, d = fq q := by
  unfold isFr at h
  split at h
  · rename_i a b
    have h := of_decide_eq_true h
    have b0 : 0 < b := by omega
    have cop : Nat.Coprime a.natAbs b.toNat := by
      rcases h with h | h
      · subst h; simp [Nat.Coprime]
      · have : b.toNat = b.natAbs := by omega
        rw [this]; exact h.2
    refine ⟨⟨a, b.toNat, by omega, cop⟩, ?_⟩
    simp only [fq]
    rw [Int.toNat_of_nonneg (by omega)]
  · cases h
theorem isFr_bits {q : Rat} (h : Ay n w k (fq q)) : Bq n q := by
  match k, h with
  | k + 1, h =>
    have h1 := h.2 (.int q.num) (by simp)
    have h2 := h.2 (.int (q.den : Int)) (by simp)
    match k, h1, h2 with
    | k + 1, h1, h2 => exact ⟨h1, by have : (q.den : Int).natAbs < 2 ^ n := h2; rwa [den_abs] at this⟩
theorem is_fraction_any (h : Ay n w k d) (S : Sto) : F_is_fraction [d] S = .ok (.bl (isFr d)) S := by
  unfold F_is_fraction b_is_fraction
  refine run_eq0 ?_ (by simp [Pl])
  match k, h with
  | k + 1, h =>
    cases d with
    | tup xs =>
      by_cases e : xs.length = 2
      · match xs, e, h with
        | [x, y], _, h =>
          have hx := h.2 x (by simp)
          have hy := h.2 y (by simp)
          match k, hx, hy with
          | k + 1, hx, hy =>
            cases x with
            | int a =>
              cases y with
              | int b =>
                by_cases h1 : b = 1
                · subst h1
                  simp [c_is_fraction_0, c_is_fraction_1, c_is_fraction_2, c_is_fraction_3, c_is_fraction_4, sSeq, isFr]
                · have n1 : (b == 1) = false := by simpa using h1
                  by_cases h2 : 1 < b
                  · by_cases h3 : Nat.gcd a.natAbs b.natAbs = 1
                    · simp [c_is_fraction_0, c_is_fraction_1, c_is_fraction_2, c_is_fraction_3, c_is_fraction_4, sSeq, isFr, h1, h2, h3, n1]
                    · have n3 : ((Nat.gcd a.natAbs b.natAbs : Nat) : Int) ≠ 1 := by omega
                      simp [c_is_fraction_0, c_is_fraction_1, c_is_fraction_2, c_is_fraction_3, c_is_fraction_4, sSeq, isFr, h1, h2, h3, n1, n3]
                  · simp [c_is_fraction_0, c_is_fraction_1, c_is_fraction_2, c_is_fraction_3, c_is_fraction_4, sSeq, isFr, h1, h2, n1]
              | bl b =>
                cases b
                · have : oEq (.bl false) (.int 1) S = .ok (.bl false) S := by simp [oEq, oEqG, pyOf, PyData.eqv]
                  simp [c_is_fraction_0, c_is_fraction_1, c_is_fraction_2, c_is_fraction_3, c_is_fraction_4, sSeq, isFr, this]
                · simp [c_is_fraction_0, c_is_fraction_1, c_is_fraction_2, c_is_fraction_3, c_is_fraction_4, sSeq, isFr]
              | tup _ => simp [c_is_fraction_0, c_is_fraction_1, c_is_fraction_2, sSeq, isFr]
              | lst _ => simp [c_is_fraction_0, c_is_fraction_1, c_is_fraction_2, sSeq, isFr]
              | dct _ => simp [c_is_fraction_0, c_is_fraction_1, c_is_fraction_2, sSeq, isFr]
              | non => simp [c_is_fraction_0, c_is_fraction_1, c_is_fraction_2, sSeq, isFr]
              | str _ => simp [c_is_fraction_0, c_is_fraction_1, c_is_fraction_2, sSeq, isFr]
              | _ => exact hy.elim
            | bl a =>
              cases y with
              | int b => cases a <;> simp [c_is_fraction_0, c_is_fraction_1, c_is_fraction_2, c_is_fraction_3, sSeq, isFr]
              | bl b => cases a <;> simp [c_is_fraction_0, c_is_fraction_1, c_is_fraction_2, c_is_fraction_3, sSeq, isFr]
              | tup _ => simp [c_is_fraction_0, c_is_fraction_1, c_is_fraction_2, sSeq, isFr]
              | lst _ => simp [c_is_fraction_0, c_is_fraction_1, c_is_fraction_2, sSeq, isFr]
              | dct _ => simp [c_is_fraction_0, c_is_fraction_1, c_is_fraction_2, sSeq, isFr]
              | non => simp [c_is_fraction_0, c_is_fraction_1, c_is_fraction_2, sSeq, isFr]
              | str _ => simp [c_is_fraction_0, c_is_fraction_1, c_is_fraction_2, sSeq, isFr]
              | _ => exact hy.elim
            | tup _ => simp [c_is_fraction_0, c_is_fraction_1, c_is_fraction_2, sSeq, isFr]
            | lst _ => simp [c_is_fraction_0, c_is_fraction_1, c_is_fraction_2, sSeq, isFr]
            | dct _ => simp [c_is_fraction_0, c_is_fraction_1, c_is_fraction_2, sSeq, isFr]
            | non => simp [c_is_fraction_0, c_is_fraction_1, c_is_fraction_2, sSeq, isFr]
            | str _ => simp [c_is_fraction_0, c_is_fraction_1, c_is_fraction_2, sSeq, isFr]
            | _ => exact hx.elim
      · have ne : ¬ ((xs.length : Nat) : Int) = 2 := by omega
        have nb : (((xs.length : Nat) : Int) != 2) = true := by simpa using ne
        have hf : isFr (.tup xs) = false := by
          unfold isFr
          split
          · rename_i e2; cases e2; simp at e
          · rfl
        simp [c_is_fraction_0, sSeq, nb, hf]
    | lst xs => simp [c_is_fraction_0, sSeq, isFr]
    | dct kvs => simp [c_is_fraction_0, sSeq, isFr]
    | non => simp [c_is_fraction_0, sSeq, isFr]
    | bl b => simp [c_is_fraction_0, sSeq, isFr]
    | int i => simp [c_is_fraction_0, sSeq, isFr]
    | str s => simp [c_is_fraction_0, sSeq, isFr]
    | _ => exact h.elim
/-- the top of a fraction -/
def topD : D → Int
  | .tup (.int a :: _) => a
  | _ => 0
def isAb (d : D) : Bool := isFr d && decide (0 < topD d)
def isFn (d : D) : Bool := isFr d && decide (0 ≤ topD d)
theorem topD_fq (q : Rat) : topD (fq q) = q.num := rfl
theorem is_above_any (h : Ay n w k d) (S : Sto) : F_is_above_nought [d] S = .ok (.bl (isAb d)) S := by
  have e1 := fun S => is_fraction_any h S
  unfold F_is_above_nought b_is_above_nought
  refine run_eq0 ?_ (by simp [Pl])
  by_cases hf : isFr d = true
  · obtain ⟨q, rfl⟩ := isFr_ex hf
    have ix : ∀ S, oIx (fq q) (.int 0) S = .ok (.int q.num) S := fun S => rfl
    have ht := topD_fq q
    simp [c_is_above_nought_0, e1, hf, isAb, ix, ht]
  · have hf' : isFr d = false := by simpa using hf
    simp [c_is_above_nought_0, e1, hf', isAb]
theorem is_from_any (h : Ay n w k d) (S : Sto) : F_is_from_nought [d] S = .ok (.bl (isFn d)) S := by
  have e1 := fun S => is_fraction_any h S
  unfold F_is_from_nought b_is_from_nought
  refine run_eq0 ?_ (by simp [Pl])
  by_cases hf : isFr d = true
  · obtain ⟨q, rfl⟩ := isFr_ex hf
    have ix : ∀ S, oIx (fq q) (.int 0) S = .ok (.int q.num) S := fun S => rfl
    have ht := topD_fq q
    simp [c_is_from_nought_0, e1, hf, isFn, ix, ht]
  · have hf' : isFr d = false := by simpa using hf
    simp [c_is_from_nought_0, e1, hf', isFn]
theorem isAb_ex {d : D} (h : isAb d = true) : ∃ q : Rat, d = fq q ∧ 0 < q := by
  unfold isAb at h
  rw [Bool.and_eq_true] at h
  obtain ⟨q, rfl⟩ := isFr_ex h.1
  exact ⟨q, rfl, by have := of_decide_eq_true h.2; rw [topD_fq, num_pos] at this; exact this⟩
def isSt : D → Bool
  | .tup [a, b, c] => isW 1 200000 a && (isAb b && isAb c)
  | _ => false
theorem is_stretch_any (h : Ay n w k d) (S : Sto) : F_is_stretch [d] S = .ok (.bl (isSt d)) S := by
  have e1 := fun S => is_tuple_any h 3 S
  have e1' : ∀ S, F_is_tuple_of [d, .int 3] S = .ok (.bl (isTup 3 d)) S := e1
  unfold F_is_stretch b_is_stretch
  refine run_eq0 ?_ (by simp [Pl])
  by_cases ht : isTup 3 d = true
  · obtain ⟨a, b, c, rfl⟩ : ∃ a b c, d = .tup [a, b, c] := by
      unfold isTup at ht
      split at ht
      · rename_i xs
        have := of_decide_eq_true ht
        match xs, this with
        | [a, b, c], _ => exact ⟨a, b, c, rfl⟩
      · cases ht
    match k, h with
    | k + 1, h =>
      have a1 := fun S => is_within_any (h.2 a (by simp)) 1 200000 S
      have a2 := fun S => is_above_any (h.2 b (by simp)) S
      have a3 := fun S => is_above_any (h.2 c (by simp)) S
      have es : isSt (.tup [a, b, c]) = (isW 1 200000 a && (isAb b && isAb c)) := rfl
      rw [es]
      cases w1 : isW 1 200000 a
      · simp [c_is_stretch_0, c_is_stretch_1, c_is_stretch_2, sSeq, e1', ht, a1, w1]
      · cases w2 : isAb b
        · simp [c_is_stretch_0, c_is_stretch_1, c_is_stretch_2, sSeq, e1', ht, a1, w1, a2, w2]
        · simp [c_is_stretch_0, c_is_stretch_1, c_is_stretch_2, sSeq, e1', ht, a1, w1, a2, w2, a3]
  · have ht' : isTup 3 d = false := by simpa using ht
    have es : isSt d = false := by
      unfold isSt
      split
      · simp [isTup] at ht
      · rfl
    simp [c_is_stretch_0, sSeq, e1', ht', es]
theorem isSt_ex {d : D} (h : isSt d = true) : ∃ s : St, d = sd s ∧ 1 ≤ s.m ∧ s.m ≤ 200000 ∧ 0 < s.f ∧ 0 < s.l := by
  unfold isSt at h
  split at h
  · rename_i a b c
    rw [Bool.and_eq_true, Bool.and_eq_true] at h
    obtain ⟨h1, h2, h3⟩ := h
    obtain ⟨f, rfl, f0⟩ := isAb_ex h2
    obtain ⟨l, rfl, l0⟩ := isAb_ex h3
    unfold isW at h1
    split at h1
    · rename_i i
      have := of_decide_eq_true h1
      exact ⟨⟨i, f, l⟩, rfl, this.1, this.2, f0, l0⟩
    · cases h1
  · cases h
end
end Fx
set_option Elab.async false
set_option linter.all false
set_option maxRecDepth 100000
set_option exponentiation.threshold 20000
/-! things of any kind: is_tempo of them, and what is refused -/
namespace Fx
open PySem L2 DV
theorem sd_inj {s t : St} (h : sd s = sd t) : s = t := by
  simp only [sd, D.tup.injEq, List.cons.injEq, D.int.injEq, fq_inj, and_true] at h
  cases s; cases t
  simp at h ⊢
  exact h
theorem map_inj {α : Type} {f : α → D} (hf : ∀ x y, f x = f y → x = y) : ∀ {xs ys : List α}, xs.map f = ys.map f → xs = ys
  | [], [], _ => rfl
  | [], _ :: _, h => by cases h
  | _ :: _, [], h => by cases h
  | x :: xs, y :: ys, h => by
    rw [List.map_cons, List.map_cons, List.cons.injEq] at h
    rw [hf _ _ h.1, map_inj hf h.2]
theorem td_inj {ss ts : List St} {r q : Rat} (h : td ss r = td ts q) : ss = ts ∧ r = q := by
  simp only [td, D.tup.injEq, List.cons.injEq, fq_inj, and_true] at h
  exact ⟨map_inj (fun _ _ => sd_inj) h.1, h.2⟩
structure Tm' (ss : List St) (r : Rat) : Prop where
  n24 : ss.length ≤ 24
  all : ∀ s ∈ ss, 1 ≤ s.m ∧ s.m ≤ 200000 ∧ 0 < s.f ∧ 0 < s.l
  r0 : 0 < r
  sum : sm ss ≤ 200000
  plain : Adj ss
  last : ∀ (h : ss ≠ []), ¬ ((ss.getLast h).f = r ∧ (ss.getLast h).l = r)
/-- is a tempo -/
def Tm (d : D) : Prop := ∃ ss r, d = td ss r ∧ Tm' ss r
theorem gd_no {p : Prop} (h : ¬ p) : gd p = false := by
  cases z : gd p with
  | true => exact absurd (of_gd z) h
  | false => rfl
section
variable {n m k j w : Nat} {d : D} {S : Sto} {xs : List D} {ss : List St} {r : Rat} {B : Nat}
theorem tm_td : Tm (td ss r) ↔ Tm' ss r := ⟨fun ⟨ts, q, e, h⟩ => by obtain ⟨rfl, rfl⟩ := td_inj e; exact h, fun h => ⟨ss, r, rfl, h⟩⟩
theorem is_plain_any (h : ∀ s ∈ ss, Sok B s) (n24 : ss.length ≤ 24) (S : Sto) : F_is_plain [.tup (ss.map sd), fq r] S = .ok (.bl (gd (Adj ss ∧ ∀ (h : ss ≠ []), ¬ ((ss.getLast h).f = r ∧ (ss.getLast h).l = r)))) S := by
  refine eq_of_wp (wp_run ?_)
  show Ws (b_is_plain [some (.tup (ss.map sd)), some (fq r), none] S) _
  unfold b_is_plain
  refine ws_seq ?_
  refine ws_forR (lo := 1) (n := ss.length - 1) (S1 := S) ?_ (fun i ρ S' => (∀ (j : Nat) (hj : j < i) (h : j + 1 < ss.length), ¬ (ss[j].l = ss[j + 1].f ∧ rise ss[j] = rise ss[j + 1])) ∧ ∃ y, ρ = [some (.tup (ss.map sd)), some (fq r), y] ∧ S' = S) ⟨fun j hj => by omega, _, rfl, rfl⟩ ?_ ?_
  · have g : gd (-(2 ^ 62) ≤ (1 : Int) ∧ (1 : Int) < 2 ^ 62 ∧ -(2 ^ 62) ≤ (ss.length : Int) ∧ (ss.length : Int) < 2 ^ 62) = true := gd_of (by omega)
    simp only [iRng_eq, aCons_eq, aNil_eq, eC_eq, bind_ok, eB_eq, eVar_0, cLen_tup, List.length_map, g, if_true]
    rw [show ((ss.length : Int) - 1).toNat = ss.length - 1 by omega]
  · rintro i hi ρ S' ⟨pre, y, rfl, rfl⟩
    have g := fun S => goes_on_ok (h ss[i] (List.getElem_mem _)) (h ss[i + 1] (List.getElem_mem (by omega))) S
    have i1 : atI (ss.map sd) ((1 : Int) + (i : Int) - 1) = some (sd ss[i]) := by
      rw [show (1 : Int) + (i : Int) - 1 = (i : Int) by omega, atI_cast, List.getElem?_map, List.getElem?_eq_getElem (by omega)]
      rfl
    have i2 : atI (ss.map sd) ((1 : Int) + (i : Int)) = some (sd ss[i + 1]) := by
      rw [show (1 : Int) + (i : Int) = ((i + 1 : Nat) : Int) by omega, atI_cast, List.getElem?_map, List.getElem?_eq_getElem (by omega)]
      rfl
    refine ⟨_, put_nm _ _ _ _, ?_⟩
    simp only [List.set]
    by_cases hg : ss[i].l = ss[i + 1].f ∧ rise ss[i] = rise ss[i + 1]
    · simp only [decide_eq_true hg] at g
      have e : c_is_plain_0_0 [some (.tup (ss.map sd)), some (fq r), some (.int ((1 : Int) + (i : Int)))] S' = .rt (.bl false) S' := by
        simp [c_is_plain_0_0, i1, i2, g]
      rw [e]
      have no : gd (Adj ss ∧ ∀ (h : ss ≠ []), ¬ ((ss.getLast h).f = r ∧ (ss.getLast h).l = r)) = false := gd_no fun z => z.1 i (by omega) hg
      exact ⟨S', [], .bl false, by simp, .rfl', by simp [frz], by rw [no], rfl⟩
    · simp only [decide_eq_false hg] at g
      have e : c_is_plain_0_0 [some (.tup (ss.map sd)), some (fq r), some (.int ((1 : Int) + (i : Int)))] S' = .nx [some (.tup (ss.map sd)), some (fq r), some (.int ((1 : Int) + (i : Int)))] S' := by
        simp [c_is_plain_0_0, i1, i2, g]
      rw [e]
      exact ⟨fun j hj hl => by
        by_cases e : j = i
        · subst e; exact hg
        · exact pre j (by omega) hl, _, rfl, rfl⟩
  · rintro ρ S' ⟨pre, y, rfl, rfl⟩
    have adj : Adj ss := fun j hj => pre j (by omega) hj
    by_cases he : ss = []
    · have yes : gd (Adj ss ∧ ∀ (h : ss ≠ []), ¬ ((ss.getLast h).f = r ∧ (ss.getLast h).l = r)) = true := gd_of ⟨adj, fun h => absurd he h⟩
      rw [yes]
      subst he
      have : c_is_plain_1 [some (.tup (([] : List St).map sd)), some (fq r), y] S' = .rt (.bl true) S' := by simp [c_is_plain_1]
      dsimp only
      rw [this]
      exact end_pure0 (by simp [Pl]) ⟨rfl, rfl⟩
    · have i1 := at_last (g := sd) he
      have c1 : ∀ S, oSl (sd (ss.getLast he)) (some 1) none S = .ok (.tup [fq (ss.getLast he).f, fq (ss.getLast he).l]) S := fun S => rfl
      have ne : ss.isEmpty = false := by simpa using he
      by_cases l : (ss.getLast he).f = r ∧ (ss.getLast he).l = r
      · have no : gd (Adj ss ∧ ∀ (h : ss ≠ []), ¬ ((ss.getLast h).f = r ∧ (ss.getLast h).l = r)) = false := gd_no fun z => z.2 he l
        rw [no]
        have : c_is_plain_1 [some (.tup (ss.map sd)), some (fq r), y] S' = .rt (.bl false) S' := by simp [c_is_plain_1, ne, i1, c1, oNe_pair, l]
        dsimp only
        rw [this]
        exact end_pure0 (by simp [Pl]) ⟨rfl, rfl⟩
      · have yes : gd (Adj ss ∧ ∀ (h : ss ≠ []), ¬ ((ss.getLast h).f = r ∧ (ss.getLast h).l = r)) = true := gd_of ⟨adj, fun _ => l⟩
        rw [yes]
        have : c_is_plain_1 [some (.tup (ss.map sd)), some (fq r), y] S' = .rt (.bl true) S' := by simp [c_is_plain_1, ne, i1, c1, oNe_pair, l]
        dsimp only
        rw [this]
        exact end_pure0 (by simp [Pl]) ⟨rfl, rfl⟩
theorem all_map {α : Type} (f : α → Bool) (g : D → Bool) (xs : List D) (S : Sto) : cAll [.lst (xs.map fun x => D.bl (g x))] S = .ok (.bl (xs.all g)) S := by
  have := allBl_map xs g
  simp only [cAll, lstOf_lst, this]
  congr 2
  rw [List.all_map]
  rfl
theorem st_list : ∀ {xs : List D}, xs.all isSt = true → ∃ ss : List St, xs = ss.map sd ∧ ∀ s ∈ ss, 1 ≤ s.m ∧ s.m ≤ 200000 ∧ 0 < s.f ∧ 0 < s.l
  | [], _ => ⟨[], rfl, fun s h => by simp at h⟩
  | x :: xs, h => by
    rw [List.all_cons, Bool.and_eq_true] at h
    obtain ⟨s, rfl, hs⟩ := isSt_ex h.1
    obtain ⟨ss, rfl, hss⟩ := st_list h.2
    exact ⟨s :: ss, rfl, fun t ht => by
      rcases List.mem_cons.mp ht with rfl | ht
      · exact hs
      · exact hss t ht⟩
theorem isSt_sd {s : St} (h1 : 1 ≤ s.m) (h2 : s.m ≤ 200000) (h3 : 0 < s.f) (h4 : 0 < s.l) : isSt (sd s) = true := by
  have ab : ∀ q : Rat, 0 < q → isAb (fq q) = true := fun q hq => by
    unfold isAb
    rw [isFr_fq, topD_fq, Bool.true_and]
    exact decide_eq_true (by rw [num_pos]; exact hq)
  show (isW 1 200000 (.int s.m) && (isAb (fq s.f) && isAb (fq s.l))) = true
  rw [ab _ h3, ab _ h4, Bool.and_true, Bool.and_true]
  exact decide_eq_true ⟨h1, h2⟩
theorem is_tempo_any (h : Ay n w k d) (hn : n ≤ 1000) (S : Sto) : F_is_tempo [d] S = .ok (.bl (gd (Tm d))) S := by
  have e1 : ∀ S, F_is_tuple_of [d, .int 2] S = .ok (.bl (isTup 2 d)) S := fun S => is_tuple_any h 2 S
  unfold F_is_tempo b_is_tempo
  refine run_eq0 ?_ (by simp [Pl])
  show (sSeq c_is_tempo_0 _) [some d, none, none, none] S = _
  by_cases ht : isTup 2 d = true
  · obtain ⟨a, b, rfl⟩ : ∃ a b, d = .tup [a, b] := by
      unfold isTup at ht
      split at ht
      · rename_i xs
        have := of_decide_eq_true ht
        match xs, this with
        | [a, b], _ => exact ⟨a, b, rfl⟩
      · cases ht
    refine (seq_nx (ρ' := [some (.tup [a, b]), none, none, none]) (S' := S) (by simp [c_is_tempo_0, e1, ht]) _).trans ?_
    refine (seq_nx (ρ' := [some (.tup [a, b]), some a, some b, none]) (S' := S) (by simp [c_is_tempo_1]) _).trans ?_
    match k, h with
    | k + 1, h =>
      have ha := h.2 a (by simp)
      have hb := h.2 b (by simp)
      have notup : (∀ xs, a ≠ .tup xs) → gd (Tm (.tup [a, b])) = false := fun z => gd_no fun ⟨ss, r, e, _⟩ => by
        simp only [td, D.tup.injEq, List.cons.injEq] at e
        exact z _ e.1
      match k, ha with
      | k + 1, ha =>
        cases a with
        | tup xs =>
          by_cases hl : xs.length ≤ 24
          · have nl : ¬ (24 : Int) < (xs.length : Nat) := by omega
            refine (seq_nx (ρ' := [some (.tup [.tup xs, b]), some (.tup xs), some b, none]) (S' := S) (by simp [c_is_tempo_2, nl]) _).trans ?_
            have e2 := is_above_any hb S
            have l1 := lc_map (a := iSeq (eVar 1)) (t := .nm 3) (e := eCall F_is_stretch (aCons (eVar 3) aNil)) (own := [3]) (ρ := [some (.tup [.tup xs, b]), some (.tup xs), some b, none]) (S := S) (S1 := S) (it := .tup (xs.map id)) (qs := xs) (g := id) (f := fun x => D.bl (isSt x)) (by simp) (.inl rfl) (by omega) (fun _ _ => by simp [Pl]) (by
              intro x hx S2
              have := is_stretch_any (ha.2 x hx) S2
              exact ⟨_, put_nm _ _ _ _, by simp [wipeD, this]⟩)
            have a1 := all_map (fun b : Bool => b) isSt xs S
            by_cases hab : isAb b = true
            · obtain ⟨r, rfl, r0⟩ := isAb_ex hab
              by_cases hall : xs.all isSt = true
              · obtain ⟨ss, rfl, hss⟩ := st_list hall
                refine (seq_nx (ρ' := [some (.tup [.tup (ss.map sd), fq r]), some (.tup (ss.map sd)), some (fq r), none]) (S' := S) (by
                  simp only [c_is_tempo_3, sIf_eq, bOr_eq, bNot_eq, tTru_eq, eCall_eq, aCons_eq, aNil_eq, eVar_s, eVar_0, bind_ok, e2, hab, truD_bl, eB_eq, l1, a1, hall, Bool.not_true, Bool.false_eq_true, if_false, sb_ok, sNil_eq]) _).trans ?_
                have br : Bq n r := isFr_bits hb
                have hso : ∀ s ∈ ss, Sok n s := fun s hs => by
                  have hy : Ay n w (k + 1) (sd s) := by
                    have := ha.2 (sd s) (List.mem_map_of_mem hs)
                    exact this.up
                  have hf := hy.2 (fq s.f) (by simp)
                  have hl' := hy.2 (fq s.l) (by simp)
                  obtain ⟨a1, a2, a3, a4⟩ := hss s hs
                  exact ⟨hn, a1, a2, a3, a4, isFr_bits hf, isFr_bits hl'⟩
                rw [List.length_map] at hl
                have l2 := lc_map (a := iSeq (eVar 1)) (t := .nm 3) (e := eOp oIx (eVar 3) (eC (.int 0))) (own := [3]) (ρ := [some (.tup [.tup (ss.map sd), fq r]), some (.tup (ss.map sd)), some (fq r), none]) (S := S) (S1 := S) (it := .tup (ss.map sd)) (qs := ss) (g := sd) (f := fun s => D.int s.m) (by simp) (.inl rfl) (by omega) (fun _ _ => by simp [Pl]) (by
                  intro s hs S2
                  exact ⟨_, put_nm _ _ _ _, by simp [wipeD, sd]⟩)
                have a2 : cSum [.lst (ss.map fun s => D.int s.m)] S = .ok (.int (sm ss)) S := by
                  have := allInt_map ss St.m
                  simp only [cSum, lstOf_lst, this]
                  rfl
                have e3 := is_plain_any (r := r) hso hl S
                have et : D.tup [.tup (ss.map sd), fq r] = td ss r := rfl
                by_cases hs : sm ss ≤ 200000
                · have eqv : gd (Tm (.tup [.tup (ss.map sd), fq r])) = gd (Adj ss ∧ ∀ (h : ss ≠ []), ¬ ((ss.getLast h).f = r ∧ (ss.getLast h).l = r)) := by
                    congr 1
                    rw [et]
                    refine propext (tm_td.trans ⟨fun z => ⟨z.plain, z.last⟩, fun z => ⟨hl, hss, r0, hs, z.1, z.2⟩⟩)
                  rw [eqv]
                  simp only [c_is_tempo_4, sRet_eq, eAnd_eq, eOp_eq, eB_eq, aCons_eq, aNil_eq, l2, bind_ok, a2, eC_eq, oLe_int, decide_eq_true hs, truD_bl, eCall_eq, eVar_s, eVar_0, e3, sb_ok]
                · have no : gd (Tm (.tup [.tup (ss.map sd), fq r])) = false := gd_no fun z => by
                    rw [et, tm_td] at z
                    exact hs z.sum
                  rw [no]
                  simp only [c_is_tempo_4, sRet_eq, eAnd_eq, eOp_eq, eB_eq, aCons_eq, aNil_eq, l2, bind_ok, a2, eC_eq, oLe_int, decide_eq_false hs, truD_bl, sb_ok]
              · have hall' : xs.all isSt = false := by simpa using hall
                have no : gd (Tm (.tup [.tup xs, fq r])) = false := gd_no fun ⟨ss, r, e, z⟩ => by
                  simp only [td, D.tup.injEq, List.cons.injEq] at e
                  refine hall ?_
                  rw [e.1, List.all_map, List.all_eq_true]
                  intro s hs
                  obtain ⟨a1, a2, a3, a4⟩ := z.all s hs
                  exact isSt_sd a1 a2 a3 a4
                rw [no]
                refine seq_rt ?_ _
                simp only [c_is_tempo_3, sIf_eq, bOr_eq, bNot_eq, tTru_eq, eCall_eq, aCons_eq, aNil_eq, eVar_s, eVar_0, bind_ok, e2, hab, truD_bl, eB_eq, l1, a1, hall', Bool.not_true, Bool.not_false, Bool.false_eq_true, if_false, if_true, sb_ok, sRet_eq, eC_eq]
            · have hab' : isAb b = false := by simpa using hab
              have no : gd (Tm (.tup [.tup xs, b])) = false := gd_no fun ⟨ss, r, e, z⟩ => by
                simp only [td, D.tup.injEq, List.cons.injEq, and_true] at e
                refine hab ?_
                rw [e.2]
                unfold isAb
                rw [isFr_fq, topD_fq, Bool.true_and]
                exact decide_eq_true (by rw [num_pos]; exact z.r0)
              rw [no]
              refine seq_rt ?_ _
              simp only [c_is_tempo_3, sIf_eq, bOr_eq, bNot_eq, tTru_eq, eCall_eq, aCons_eq, aNil_eq, eVar_s, eVar_0, bind_ok, e2, hab', truD_bl, Bool.not_false, if_true, sb_ok, sRet_eq, eC_eq]
          · have nl : (24 : Int) < (xs.length : Nat) := by omega
            have no : gd (Tm (.tup [.tup xs, b])) = false := gd_no fun ⟨ss, r, e, z⟩ => by
              simp only [td, D.tup.injEq, List.cons.injEq] at e
              have := z.n24
              rw [e.1, List.length_map] at hl
              exact hl this
            rw [no]
            refine seq_rt ?_ _
            simp [c_is_tempo_2, nl]
        | lst xs => rw [notup (fun _ => nofun)]; refine seq_rt ?_ _; simp [c_is_tempo_2]
        | dct xs => rw [notup (fun _ => nofun)]; refine seq_rt ?_ _; simp [c_is_tempo_2]
        | non => rw [notup (fun _ => nofun)]; refine seq_rt ?_ _; simp [c_is_tempo_2]
        | bl xs => rw [notup (fun _ => nofun)]; refine seq_rt ?_ _; simp [c_is_tempo_2]
        | int xs => rw [notup (fun _ => nofun)]; refine seq_rt ?_ _; simp [c_is_tempo_2]
        | str xs => rw [notup (fun _ => nofun)]; refine seq_rt ?_ _; simp [c_is_tempo_2]
        | _ => exact ha.elim
  · have ht' : isTup 2 d = false := by simpa using ht
    have no : gd (Tm d) = false := gd_no fun ⟨ss, r, e, z⟩ => by
      rw [e] at ht
      simp [td, isTup] at ht
    rw [no]
    refine seq_rt ?_ _
    simp [c_is_tempo_0, e1, ht']
theorem refuse_any (h : Ay n w k d) (hn : n ≤ 1000) (ht : ¬ Tm d) (S : Sto) : F_refuse_no_tempo [d] S = .ex "NoTempo" S := by
  have e1 := is_tempo_any h hn S
  rw [gd_no ht] at e1
  unfold F_refuse_no_tempo b_refuse_no_tempo
  refine run_ex0 (ρ := [some d]) ?_
  show c_refuse_no_tempo_0 [some d] S = _
  simp only [c_refuse_no_tempo_0, sIf_eq, bNot_eq, tTru_eq, eCall_eq, aCons_eq, aNil_eq, eVar_0, bind_ok, e1, truD_bl, Bool.not_false, sb_ok, if_true, sRaise_eq]
end
end Fx
set_option Elab.async false
set_option linter.all false
set_option maxRecDepth 100000
/-! repr of data with greater numbers: by the length of what is shown -/
namespace DV
open PySem PySem.Spec PyProof.Rows L2
mutual
def Rw : Nat → D → Prop
  | 0, _ => False
  | k + 1, .tup xs => Rws k xs
  | k + 1, .lst xs => Rws k xs
  | _ + 1, .non => True
  | _ + 1, .bl _ => True
  | _ + 1, .int i => i.natAbs.log2 < 1920
  | _ + 1, .str s => PyData.strOk s = true
  | _ + 1, _ => False
def Rws : Nat → List D → Prop
  | _, [] => True
  | 0, _ :: _ => False
  | k + 1, d :: ds => Rw k d ∧ Rws (k + 1) ds
end
theorem rws_iff {k : Nat} : ∀ {ds : List D}, Rws (k + 1) ds ↔ ∀ d ∈ ds, Rw k d
  | [] => by simp [Rws]
  | d :: ds => by simp [Rws, rws_iff (k := k) (ds := ds)]
mutual
def lD : D → Nat
  | .int i => (PyData.shown (.int i)).length
  | .str s => 10 * s.cps.size + 2
  | .tup xs => lDs xs + 3
  | .lst xs => lDs xs + 3
  | _ => 5
def lDs : List D → Nat
  | [] => 0
  | d :: ds => lD d + 2 + lDs ds
end
theorem lDs_le {w : Nat} : ∀ {ds : List D}, (∀ d ∈ ds, lD d ≤ w) → lDs ds ≤ ds.length * (w + 2)
  | [], _ => by simp [lDs]
  | d :: ds, h => by
    have h1 := h d (by simp)
    have h2 := lDs_le (w := w) (ds := ds) fun x hx => h x (by simp [hx])
    rw [lDs, List.length_cons, Nat.succ_mul]
    omega
mutual
theorem Rw.up : ∀ {k : Nat} {d : D}, Rw k d → Rw (k + 1) d
  | 0, _, h => by simp [Rw] at h
  | k + 1, .tup xs, h => by simp only [Rw] at h ⊢; exact Rws.up h
  | k + 1, .lst xs, h => by simp only [Rw] at h ⊢; exact Rws.up h
  | _ + 1, .non, _ => by simp [Rw]
  | _ + 1, .bl _, _ => by simp [Rw]
  | _ + 1, .int _, h => by simp only [Rw] at h ⊢; exact h
  | _ + 1, .str _, h => by simp only [Rw] at h ⊢; exact h
  | _ + 1, .ob _, h => by simp [Rw] at h
  | _ + 1, .dct _, h => by simp [Rw] at h
  | _ + 1, .dtt _, h => by simp [Rw] at h
  | _ + 1, .ins _ _ _, h => by simp [Rw] at h
  | _ + 1, .exc _, h => by simp [Rw] at h
  | _ + 1, .ro _, h => by simp [Rw] at h
  | _ + 1, .gl _, h => by simp [Rw] at h
theorem Rws.up : ∀ {k : Nat} {ds : List D}, Rws k ds → Rws (k + 1) ds
  | _, [], _ => by simp [Rws]
  | 0, _ :: _, h => by simp [Rws] at h
  | k + 1, d :: ds, h => by
    simp only [Rws] at h ⊢
    exact ⟨h.1.up, h.2.up⟩
end
theorem Rw.le {d : D} {k j : Nat} (h : Rw k d) (hj : k ≤ j) : Rw j d := by
  induction hj with
  | refl => exact h
  | step _ ih => exact ih.up
mutual
theorem rw_py : ∀ {k : Nat} {d : D}, Rw k d → (∀ S, pyOf k S d = some (pyD d)) ∧ (pyD d).showable = true ∧ (pyD d).hasDict = false ∧ (pyD d).depth ≤ k ∧ (pyD d).shown.length ≤ lD d ∧ (pyD d).canLay0 = true ∧ Sok' (pyD d).shown
  | 0, _, h => by simp [Rw] at h
  | k + 1, .tup xs, h => by
    simp only [Rw] at h
    obtain ⟨h1, h2, h3, h4, h5, h7, h8⟩ := rws_py h
    refine ⟨fun S => by simp only [pyOf, h1 S, Option.map_some, pyD], by simpa [pyD, PyData.showable] using h2, by simpa [pyD, PyData.hasDict] using h3, by simp only [pyD, PyData.depth]; omega, ?_, by simpa [pyD, PyData.canLay0] using h7, ?_⟩
    · simp only [pyD]
      rw [PyData.shown]
      have := tupleText_len_le (PyData.shownAll (pyDs xs))
      simp only [lD]
      omega
    · simp only [pyD]
      rw [PyData.shown_tuple]
      refine sok_app (sok_app (sok_of "(") (sok_join (sok_of ", ") _ h8)) ?_
      split <;> exact sok_of _
  | k + 1, .lst xs, h => by
    simp only [Rw] at h
    obtain ⟨h1, h2, h3, h4, h5, h7, h8⟩ := rws_py h
    refine ⟨fun S => by simp only [pyOf, h1 S, Option.map_some, pyD], by simpa [pyD, PyData.showable] using h2, by simpa [pyD, PyData.hasDict] using h3, by simp only [pyD, PyData.depth]; omega, ?_, by simpa [pyD, PyData.canLay0] using h7, ?_⟩
    · simp only [pyD]
      rw [PyData.shown]
      have := listText_len_le (PyData.shownAll (pyDs xs))
      simp only [lD]
      omega
    · simp only [pyD]
      rw [PyData.shown_list]
      exact sok_app (sok_app (sok_of "[") (sok_join (sok_of ", ") _ h8)) (sok_of "]")
  | _ + 1, .non, _ => ⟨fun S => by simp [pyOf, pyD], by simp [pyD, PyData.showable], by simp [pyD, PyData.hasDict], by simp [pyD, PyData.depth], by simp only [pyD, lD]; decide, by simp [pyD, PyData.canLay0], sok_of "None"⟩
  | _ + 1, .bl b, _ => ⟨fun S => by simp [pyOf, pyD], by simp [pyD, PyData.showable], by simp [pyD, PyData.hasDict], by simp [pyD, PyData.depth], by cases b <;> (simp only [pyD, lD]; decide), by simp [pyD, PyData.canLay0], by cases b; exact sok_of "False"; exact sok_of "True"⟩
  | _ + 1, .int i, h => by
    simp only [Rw] at h
    exact ⟨fun S => by simp [pyOf, pyD], by simpa [pyD, PyData.showable] using h, by simp [pyD, PyData.hasDict], by simp [pyD, PyData.depth], by simp only [pyD, lD]; exact Nat.le_refl _, by simp [pyD, PyData.canLay0], by simp only [pyD, PyData.shown]; exact sok_of _⟩
  | _ + 1, .str s, h => by
    simp only [Rw] at h
    have sk := sok_iff.mp h
    refine ⟨fun S => by simp [pyOf, pyD], by simp [pyD, PyData.showable], by simp [pyD, PyData.hasDict], by simp [pyD, PyData.depth], ?_, by simpa [pyD, PyData.canLay0] using h, by simp only [pyD, PyData.shown]; exact sok_repr sk⟩
    have e := StrLaws.reprText_len s (fun c hc => by
      have := sk c hc
      have : (16 : Nat) ^ 8 = 4294967296 := by decide
      omega)
    have e2 : s.length = s.cps.size := rfl
    simp only [pyD, PyData.shown, lD]
    omega
  | _ + 1, .ob _, h => by simp [Rw] at h
  | _ + 1, .dct _, h => by simp [Rw] at h
  | _ + 1, .dtt _, h => by simp [Rw] at h
  | _ + 1, .ins _ _ _, h => by simp [Rw] at h
  | _ + 1, .exc _, h => by simp [Rw] at h
  | _ + 1, .ro _, h => by simp [Rw] at h
  | _ + 1, .gl _, h => by simp [Rw] at h
theorem rws_py : ∀ {k : Nat} {ds : List D}, Rws k ds → (∀ S, pyOf.pyAll (pyOf k S) ds = some (pyDs ds)) ∧ PyData.showableAll (pyDs ds) = true ∧ PyData.hasDictAll (pyDs ds) = false ∧ PyData.depthAll (pyDs ds) ≤ k ∧ ((PyData.shownAll (pyDs ds)).map (·.length)).sum + 2 * (PyData.shownAll (pyDs ds)).length ≤ lDs ds ∧ PyData.canLayAll0 (pyDs ds) = true ∧ ∀ t ∈ PyData.shownAll (pyDs ds), Sok' t
  | _, [], _ => ⟨fun S => by simp [pyOf.pyAll, pyDs], by simp [pyDs, PyData.showableAll], by simp [pyDs, PyData.hasDictAll], by simp [pyDs, PyData.depthAll], by simp [pyDs, PyData.shownAll, lDs], by simp [pyDs, PyData.canLayAll0], by simp [pyDs, PyData.shownAll]⟩
  | 0, _ :: _, h => by simp [Rws] at h
  | k + 1, d :: ds, h => by
    simp only [Rws] at h
    obtain ⟨a1, a2, a3, a4, a5, a7, a8⟩ := rw_py h.1.up
    obtain ⟨_, _, _, a4', _⟩ := rw_py h.1
    obtain ⟨b1, b2, b3, b4, b5, b7, b8⟩ := rws_py h.2
    refine ⟨fun S => by simp only [pyOf.pyAll, a1 S, b1 S, pyDs], by simp [pyDs, PyData.showableAll, a2, b2], by simp [pyDs, PyData.hasDictAll, a3, b3], by simp only [pyDs, PyData.depthAll]; omega, by simp only [pyDs, PyData.shownAll, lDs, List.map_cons, List.sum_cons, List.length_cons]; omega, by simp [pyDs, PyData.canLayAll0, a7, b7], ?_⟩
    intro t ht
    simp only [pyDs, PyData.shownAll, List.mem_cons] at ht
    rcases ht with rfl | ht
    · exact a8
    · exact b8 t ht
end
/-- repr of data -/
theorem repr_okW {d : D} (h : Rw 40 d) (hw : lD d ≤ 1000000) (S : Sto) : cRepr [d] S = .ok (.str (pyD d).shown) S := by
  obtain ⟨h1, h2, h3, h4, h5, h7, h8⟩ := rw_py h
  have g : reprOk (pyD d) = true := gd_of ⟨h2, h3, by omega, by omega⟩
  simp only [cRepr, h1 S, g, if_true]
theorem repr_strW {d : D} (h : Rw 40 d) : PyData.strOk (pyD d).shown = true := sok_iff.mpr (rw_py h).2.2.2.2.2.2
theorem lD_int {i : Int} {k : Nat} (hk : 1 ≤ k) (h : i.natAbs < 10 ^ k) : lD (.int i) ≤ k + 1 := by
  have e := int_text_length_le10 hk h
  simp only [lD, PyData.shown, PySem.ofString_length]
  exact e
end DV
set_option Elab.async false
set_option linter.all false
set_option maxRecDepth 100000
set_option exponentiation.threshold 20000
/-! a right tempo bent somewhere -/
namespace Fx
open PySem PySem.Spec L2 DV
/-- tuples of whole numbers -/
def Ti (n w : Nat) : Nat → D → Prop
  | 0, _ => False
  | k + 1, .tup xs => xs.length ≤ w ∧ ∀ d ∈ xs, Ti n w k d
  | _ + 1, .int i => i.natAbs < 2 ^ n
  | _ + 1, _ => False
section
variable {n w k j : Nat} {d : D} {S T : Sto} {xs : List D} {ns : List Int} {p : Int × Int} {Q : D → Sto → Prop} {E : Str → Sto → Prop}
theorem Ti.ay : ∀ {k : Nat} {d : D}, Ti n w k d → Ay n w k d
  | 0, _, h => h.elim
  | k + 1, .tup xs, h => ⟨h.1, fun d hd => (h.2 d hd).ay⟩
  | k + 1, .int i, h => h
  | _ + 1, .lst _, h => h.elim
  | _ + 1, .dct _, h => h.elim
  | _ + 1, .non, h => h.elim
  | _ + 1, .bl _, h => h.elim
  | _ + 1, .str _, h => h.elim
  | _ + 1, .ob _, h => h.elim
  | _ + 1, .dtt _, h => h.elim
  | _ + 1, .ins _ _ _, h => h.elim
  | _ + 1, .exc _, h => h.elim
  | _ + 1, .ro _, h => h.elim
  | _ + 1, .gl _, h => h.elim
theorem Ti.cn : ∀ {k : Nat} {d : D}, Ti n w k d → Cn (k + k) d
  | 0, _, h => h.elim
  | k + 1, .tup xs, h => by
    rw [show k + 1 + (k + 1) = (k + k + 1) + 1 by omega]
    simp only [Cn]
    exact cns_iff.mpr fun d hd => (h.2 d hd).cn
  | k + 1, .int i, h => by rw [show k + 1 + (k + 1) = (k + k + 1) + 1 by omega]; simp [Cn]
  | _ + 1, .lst _, h => h.elim
  | _ + 1, .dct _, h => h.elim
  | _ + 1, .non, h => h.elim
  | _ + 1, .bl _, h => h.elim
  | _ + 1, .str _, h => h.elim
  | _ + 1, .ob _, h => h.elim
  | _ + 1, .dtt _, h => h.elim
  | _ + 1, .ins _ _ _, h => h.elim
  | _ + 1, .exc _, h => h.elim
  | _ + 1, .ro _, h => h.elim
  | _ + 1, .gl _, h => h.elim
theorem ti_fq {q : Rat} (h : Bq n q) (hw : 24 ≤ w) : Ti n w (k + 2) (fq q) := ⟨by simp; omega, fun d hd => by
  simp only [List.mem_cons, List.not_mem_nil, or_false] at hd
  rcases hd with rfl | rfl
  · exact h.1
  · show (q.den : Int).natAbs < 2 ^ n
    rw [den_abs]; exact h.2⟩
theorem ti_td {ss : List St} {r : Rat} (h : Tok n ss r) (hn : 18 ≤ n) (hw : 24 ≤ w) : Ti n w (k + 5) (td ss r) := ⟨by simp; omega, fun d hd => by
  have := h.n24
  simp only [List.mem_cons, List.not_mem_nil, or_false] at hd
  rcases hd with rfl | rfl
  · refine ⟨by rw [List.length_map]; omega, fun d hd => ?_⟩
    obtain ⟨s, hs, rfl⟩ := List.mem_map.mp hd
    have ok := h.all s hs
    have m1 := ok.m1
    have m2 := ok.m2
    refine ⟨by simp; omega, fun d hd => ?_⟩
    simp only [List.mem_cons, List.not_mem_nil, or_false] at hd
    rcases hd with rfl | rfl | rfl
    · exact pow_mono (n := 18) (by omega) hn
    · exact ti_fq ok.bf hw
    · exact ti_fq ok.bl hw
  · exact ti_fq h.br hw⟩
theorem cutD_mem' {α : Type} {xs : List α} {lo hi : Option Int} {x : α} (h : x ∈ cutD xs lo hi) : x ∈ xs := by
  unfold cutD at h
  exact List.mem_of_mem_drop (List.mem_of_mem_take h)
theorem cutD_len' {α : Type} {xs : List α} {lo hi : Option Int} : (cutD xs lo hi).length ≤ xs.length := by
  unfold cutD
  rw [List.length_take, List.length_drop]
  omega
theorem oSl_tup (xs : List D) (lo hi : Option Int) (S : Sto) : oSl (.tup xs) lo hi S = .ok (.tup (cutD xs lo hi)) S := rfl
theorem ay_non : Ay n w (k + 1) .non := trivial
theorem ay_bl (b : Bool) : Ay n w (k + 1) (.bl b) := trivial
section
theorem lDs_app : ∀ {a b : List D}, lDs (a ++ b) = lDs a + lDs b
  | [], b => by simp [lDs]
  | x :: a, b => by rw [List.cons_append, lDs, lDs, lDs_app (a := a)]; omega
theorem lDs_rev : ∀ {a : List D}, lDs a.reverse = lDs a
  | [] => rfl
  | x :: a => by rw [List.reverse_cons, lDs_app, lDs_rev (a := a)]; simp only [lDs]; omega
theorem lDs_take {a : List D} (k : Nat) : lDs (a.take k) ≤ lDs a := by
  have e := lDs_app (a := a.take k) (b := a.drop k)
  rw [List.take_append_drop] at e
  omega
theorem lDs_drop {a : List D} (k : Nat) : lDs (a.drop k) ≤ lDs a := by
  have e := lDs_app (a := a.take k) (b := a.drop k)
  rw [List.take_append_drop] at e
  omega
theorem lDs_cut {a : List D} (lo hi : Option Int) : lDs (cutD a lo hi) ≤ lDs a := Nat.le_trans (lDs_take _) (lDs_drop _)
theorem lD_mem : ∀ {a : List D} {d : D}, d ∈ a → lD d + 2 ≤ lDs a
  | x :: a, d, h => by
    rw [lDs]
    rcases List.mem_cons.mp h with rfl | h
    · omega
    · have := lD_mem h
      omega
end
/-- what a leaf is bent to -/
def Lf (n w k b : Nat) (zs : List D) : Prop := 1 ≤ zs.length ∧ zs.length ≤ 16 ∧ (∀ z ∈ zs, Ay n w k z) ∧ ∀ z ∈ zs, lD z ≤ b
theorem bent_end {F : FF} {zs : List D} {d : D} {y2 y4 : Option D} {kk : Nat} {T0 : Sto} {n w k b : Nat} (hz : Lf n w k b zs) (h36 : k ≤ 18) (h : Pk p kk) (hk : kk + 1 ≤ 1000000000000)
    (q : ∀ d' p', Ay n w k d' → lD d' ≤ b → Pk p' (kk + 1) → Q d' (Pn ns p' T)) {p0 : Int × Int} :
    Ws (c_l_bent_4 F [some (.ob 0), some d, y2, some (.lst zs), y4] (Pn ns p T)) (endP (Pn ns p0 T) Q E) := by
  obtain ⟨z1, z2, z3, z4⟩ := hz
  simp only [c_l_bent_4, sRet_eq, eOp_eq, eCall_eq, eB_eq, aCons_eq, aNil_eq, eVar_s, eVar_0, bind_ok, cLen_lst, ws_sb, wp_bind]
  refine wp_draw h (by omega) (by omega) (by omega) fun a p1 a0 a1 h1 => ?_
  obtain ⟨v, hv, ev⟩ := atI_mem (l := zs) a0 a1
  simp only [oIx_lst, ev, wp_ok, ws_rt]
  exact ⟨Pn ns p1 T, [], v, by simp, kp_pen, frz_pl 40 _ ((z3 v hv).pl40 h36 |>.le (by decide)), q v p1 (z3 v hv) (z4 v hv) h1⟩
theorem lf_first {b : Nat} (hb : 310 ≤ b) (hn : 18 ≤ n) (hw : 24 ≤ w) : Lf n w (k + 3) b [.non, .bl true, .bl false, .int (-1), .int 0, .int 1, .str "", .str "a", .tup [], .lst [], .dct [], .tup [.int 1, .int 1], .tup [.int 2, .int 4], .tup [.int 0, .int 1], .lst [.int 1, .int 1], .tup [.tup [.int 1, .int 1]]] := by
  have i0 := lD_int (i := 0) (k := 1) (by decide) (by decide)
  have i1 := lD_int (i := 1) (k := 1) (by decide) (by decide)
  have i2 := lD_int (i := 2) (k := 1) (by decide) (by decide)
  have i4 := lD_int (i := 4) (k := 1) (by decide) (by decide)
  have im := lD_int (i := -1) (k := 1) (by decide) (by decide)
  refine ⟨by simp, by simp, fun z hz => ?_, fun z hz => ?_⟩
  rotate_left
  · have tp : ∀ xs, lD (.tup xs) = lDs xs + 3 := fun xs => by rw [lD]
    have ls : ∀ xs, lD (.lst xs) = lDs xs + 3 := fun xs => by rw [lD]
    have lc : ∀ d ds, lDs (d :: ds) = lD d + 2 + lDs ds := fun d ds => by rw [lDs]
    have ln : lDs [] = 0 := by rw [lDs]
    simp only [List.mem_cons, List.not_mem_nil, or_false] at hz
    rcases hz with rfl | rfl | rfl | rfl | rfl | rfl | rfl | rfl | rfl | rfl | rfl | rfl | rfl | rfl | rfl | rfl
    · simp only [lD]; omega
    · simp only [lD]; omega
    · simp only [lD]; omega
    · omega
    · omega
    · omega
    · have : lD (.str "") ≤ 20 := by simp only [lD]; decide
      omega
    · have : lD (.str "a") ≤ 20 := by simp only [lD]; decide
      omega
    · rw [tp, ln]; omega
    · rw [ls, ln]; omega
    · simp only [lD]; omega
    · rw [tp, lc, lc, ln]; omega
    · rw [tp, lc, lc, ln]; omega
    · rw [tp, lc, lc, ln]; omega
    · rw [ls, lc, lc, ln]; omega
    · rw [tp, lc, ln, tp, lc, lc, ln]; omega
  have small : ∀ i : Int, i.natAbs < 2 ^ 3 → ∀ k, Ay n w (k + 1) (.int i) := fun i hi k => ay_int (pow_mono hi (by omega))
  have pair : ∀ i j : Int, i.natAbs < 2 ^ 3 → j.natAbs < 2 ^ 3 → ∀ k, Ay n w (k + 2) (.tup [.int i, .int j]) := fun i j hi hj k => ay_tup (by simp; omega) fun d hd => by
    simp only [List.mem_cons, List.not_mem_nil, or_false] at hd
    rcases hd with rfl | rfl
    · exact small _ hi _
    · exact small _ hj _
  simp only [List.mem_cons, List.not_mem_nil, or_false] at hz
  rcases hz with rfl | rfl | rfl | rfl | rfl | rfl | rfl | rfl | rfl | rfl | rfl | rfl | rfl | rfl | rfl | rfl
  · exact trivial
  · exact trivial
  · exact trivial
  · exact small _ (by decide) _
  · exact small _ (by decide) _
  · exact small _ (by decide) _
  · exact ⟨by decide, by decide +kernel⟩
  · exact ⟨by decide, by decide +kernel⟩
  · exact ay_tup (by simp) (by simp)
  · exact ay_lst (by simp) (by simp)
  · exact rfl
  · exact pair _ _ (by decide) (by decide) _
  · exact pair _ _ (by decide) (by decide) _
  · exact pair _ _ (by decide) (by decide) _
  · exact ay_lst (by simp; omega) fun d hd => by
      simp only [List.mem_cons, List.not_mem_nil, or_false] at hd
      rcases hd with rfl | rfl
      · exact small _ (by decide) _
      · exact small _ (by decide) _
  · exact ay_tup (by simp; omega) fun d hd => by
      rw [List.mem_singleton.mp hd]
      exact pair _ _ (by decide) (by decide) _
theorem wp_bent {L : Nat} (hn : 18 ≤ n) (hn2 : n ≤ 60) (hw : 24 ≤ w) (hw2 : w ≤ 400) : ∀ (K k : Nat) {d : D} {p : Int × Int} {kk : Nat} {Q : D → Sto → Prop} {E : Str → Sto → Prop}, k ≤ K → k ≤ 12 → Ti n w k d → lD d ≤ L → Pk p kk → kk + 2 * K + 2 ≤ 1000000000000 →
    (∀ d' p', Ay (n + 1) (2 * w + 1) (k + 3) d' → lD d' ≤ (2 * L + 10) * k + 300 → Pk p' (kk + 2 * K + 2) → Q d' (Pn ns p' T)) → Wp (R_l_bent K [.ob 0, d] (Pn ns p T)) Q E
  | 0, k, d, p, kk, Q, E, hk, _, ht, _, _, _, _ => by
    have e : k = 0 := by omega
    subst e
    exact ht.elim
  | K + 1, k, d, p, kk, Q, E, hk, hk2, ht, hL, h, hkk, q => by
    have k1 : 1 ≤ k := by cases k with | zero => exact ht.elim | succ k => omega
    have kL : 2 * L + 10 ≤ (2 * L + 10) * k := Nat.le_mul_of_pos_right _ (by omega)
    have z0 : szOk 0 = true := gd_of (by decide)
    have z1 : szOk (0 + 1) = true := gd_of (by decide)
    have z2 : szOk (0 + 1 + 1) = true := gd_of (by decide)
    have z16 : szOk (0 + 1 + 1 + 1 + 1 + 1 + 1 + 1 + 1 + 1 + 1 + 1 + 1 + 1 + 1 + 1 + 1) = true := gd_of (by decide)
    have z7 : szOk (0 + 1 + 1 + 1 + 1 + 1 + 1 + 1) = true := gd_of (by decide)
    have lf0 := lf_first (b := 2 * L + 310) (n := n + 1) (w := 2 * w + 1) (k := k) (by omega) (by omega) (by omega)
    refine wp_run ?_
    show Ws (b_l_bent (R_l_bent K) [some (.ob 0), some d, none, none, none] (Pn ns p T)) _
    unfold b_l_bent
    refine ws_seq ?_
    -- what a leaf becomes
    have leaf : ∀ (p1 : Int × Int), Pk p1 (kk + 1) → Ws ((sSeq (c_l_bent_1 (R_l_bent K)) (sSeq (c_l_bent_2 (R_l_bent K)) (sSeq (c_l_bent_3 (R_l_bent K)) (c_l_bent_4 (R_l_bent K))))) [some (.ob 0), some d, none, none, none] (Pn ns p1 T)) (endP (Pn ns p T) Q E) := by
      intro p1 h1
      refine ws_step (ρ' := [some (.ob 0), some d, none, some (.lst [.non, .bl true, .bl false, .int (-1), .int 0, .int 1, .str "", .str "a", .tup [], .lst [], .dct [], .tup [.int 1, .int 1], .tup [.int 2, .int 4], .tup [.int 0, .int 1], .lst [.int 1, .int 1], .tup [.tup [.int 1, .int 1]]]), none]) (S' := Pn ns p1 T) (by
        simp only [c_l_bent_1, sAsg_nm, eLst_eq, eTup_eq, eNeg_eq, aCons_eq, aNil_eq, eC_eq, bind_ok, List.length_cons, List.length_nil, z0, z1, z2, z16, if_true, sb_ok, List.set]) ?_
      generalize [D.non, .bl true, .bl false, .int (-1), .int 0, .int 1, .str "", .str "a", .tup [], .lst [], .dct [], .tup [.int 1, .int 1], .tup [.int 2, .int 4], .tup [.int 0, .int 1], .lst [.int 1, .int 1], .tup [.tup [.int 1, .int 1]]] = zs at lf0
      refine ws_seq ?_
      simp only [c_l_bent_2, sAsg_nm, eCall_eq, aCons_eq, aNil_eq, eC_eq, eVar_s, eVar_0, bind_ok, ws_sb]
      refine wp_draw h1 (by omega) (by decide) (by decide) fun a p2 a0 a1 h2 => ?_
      simp only [ws_nx, List.set]
      refine ws_seq ?_
      have fin : ∀ zs, Lf (n + 1) (2 * w + 1) (k + 3) (2 * L + 310) zs → Ws (c_l_bent_4 (R_l_bent K) [some (.ob 0), some d, none, some (.lst zs), some (.int a)] (Pn ns p2 T)) (endP (Pn ns p T) Q E) := fun zs hz =>
        bent_end (T0 := T) hz (by omega) h2 (by omega) fun d' p' hd hb hp => q d' p' hd (by omega) (hp.mono (by omega))
      by_cases ha : 0 < a
      · match k, ht, hk2, lf0, fin with
        | k + 1, ht, hk2, lf0, fin =>
          cases d with
          | tup xs =>
            have hl := ht.1
            have el : ∀ x ∈ xs, Ay (n + 1) (2 * w + 1) (k + 3) x := fun x hx => ((((ht.2 x hx).ay.bits (Nat.le_succ n)).mono (by omega)).le (by omega))
            have cl := cutD_len' (xs := xs) (lo := none) (hi := some 1)
            have zc : szOk (xs.length + (cutD xs none (some 1)).length) = true := gd_of (by omega)
            have zd : szOk (xs.length + xs.length) = true := gd_of (by omega)
            have ls : ∀ S, cList [.tup xs] S = .ok (.lst xs) S := fun S => rfl
            have rv : ∀ ρ S, eVar 1 ρ S = .ok (.tup xs) S → eRev (eVar 1) ρ S = .ok (.tup xs.reverse) S := fun ρ S e => by simp only [eRev, e, bind_ok]
            have rv' := rv [some (.ob 0), some (.tup xs), none, some (.lst zs), some (.int a)] (Pn ns p2 T) rfl
            simp only [c_l_bent_3, sIf_eq, bAnd_eq, tTru_eq, eOp_eq, eIs_eq, eC_eq, eVar_s, eVar_0, bind_ok, oGt_int, ha, decide_true, truD_bl, if_true, isD_eq, tyD_tup, kb_tuple_tuple, sb_ok, sAsg_nm, eLst_eq, eB_eq, eSl_eq, pAt_eq, pNo_eq, eNeg_eq, eTup_eq, aCons_eq, aNil_eq, ls, rv', oSl_tup, oAdd_tup, zc, zd, List.length_cons, List.length_nil, z1, z7, ws_nx, List.set]
            refine fin _ ⟨by simp, by simp, fun z hz => ?_, fun z hz => ?_⟩
            rotate_left
            · have hL' : lDs xs + 3 ≤ L := by rw [lD] at hL; exact hL
              have a1 := lDs_cut (a := xs) none (some 1)
              have a2 := lDs_cut (a := xs) (some 1) none
              have a3 := lDs_cut (a := xs) none (some (-1))
              simp only [List.mem_cons, List.not_mem_nil, or_false] at hz
              rcases hz with rfl | rfl | rfl | rfl | rfl | rfl | rfl
              · rw [lD]; omega
              · rw [lD, lDs_rev]; omega
              · rw [lD, lDs_app]; omega
              · rw [lD]; omega
              · rw [lD]; omega
              · simp only [lD, lDs]; omega
              · rw [lD, lDs_app]; omega
            simp only [List.mem_cons, List.not_mem_nil, or_false] at hz
            rcases hz with rfl | rfl | rfl | rfl | rfl | rfl | rfl
            · exact ay_lst (by omega) el
            · exact ay_tup (by rw [List.length_reverse]; omega) fun x hx => el x (List.mem_reverse.mp hx)
            · exact ay_tup (by rw [List.length_append]; omega) fun x hx => by
                rcases List.mem_append.mp hx with hx | hx
                · exact el x hx
                · exact el x (cutD_mem' hx)
            · exact ay_tup (by have := cutD_len' (xs := xs) (lo := some 1) (hi := none); omega) fun x hx => el x (cutD_mem' hx)
            · exact ay_tup (by have := cutD_len' (xs := xs) (lo := none) (hi := some (-1)); omega) fun x hx => el x (cutD_mem' hx)
            · refine ay_tup (by simp <;> omega) fun x hx => ?_
              rw [List.mem_singleton.mp hx]
              exact ay_tup (k := k + 2) (by omega) fun x hx => ((((ht.2 x hx).ay.bits (Nat.le_succ n)).mono (by omega)).le (by omega))
            · exact ay_tup (by rw [List.length_append]; omega) fun x hx => by
                rcases List.mem_append.mp hx with hx | hx
                · exact el x hx
                · exact el x hx
          | int i =>
            have hi : i.natAbs < 2 ^ n := ht
            have e18 : (2 : Nat) ^ 18 ≤ 2 ^ n := Nat.pow_le_pow_right (by decide) hn
            have e1 : (2 : Nat) ^ (n + 1) = 2 ^ n * 2 := Nat.pow_succ ..
            have g : mulOk i 2 = true := mulOk_of (a := 60) (b := 10) (pow_mono hi hn2) (by decide) (by decide)
            have lg : gd (i.natAbs.log2 < 1920) = true := gd_of (by
              by_cases h0 : i.natAbs = 0
              · rw [h0]; decide
              · exact (Nat.log2_lt h0).mpr (pow_mono hi (by omega)))
            have st : ∀ S, cStr [.int i] S = .ok (.str (toString i)) S := fun S => by simp only [cStr, lg, if_true]
            have p18 : (2 : Nat) ^ 18 = 262144 := by decide
            have p3 : (2 : Nat) ^ n < 2 ^ (n + 1) := by omega
            simp only [c_l_bent_3, sIf_eq, bAnd_eq, tTru_eq, eOp_eq, eIs_eq, eC_eq, eVar_s, eVar_0, bind_ok, oGt_int, ha, decide_true, truD_bl, if_true, isD_eq, tyD_int, kb_int_tuple, kb_int_int, Bool.false_eq_true, if_false, sb_ok, sAsg_nm, eLst_eq, eB_eq, aCons_eq, aNil_eq, oAdd_int, oSub_int, oMul_int _ g, st, List.length_cons, List.length_nil, z7, ws_nx, List.set]
            refine fin _ ⟨by simp, by simp, fun z hz => ?_, fun z hz => ?_⟩
            rotate_left
            · have h60 : i.natAbs < 2 ^ 60 := pow_mono hi hn2
              have h6 : (2 : Nat) ^ 60 = 1152921504606846976 := by decide
              have h2 : (10 : Nat) ^ 20 = 100000000000000000000 := by decide
              have big : ∀ j : Int, j.natAbs < 10 ^ 20 → lD (.int j) ≤ 2 * L + 310 := fun j hj => by
                have := lD_int (k := 20) (by decide) hj
                omega
              simp only [List.mem_cons, List.not_mem_nil, or_false] at hz
              rcases hz with rfl | rfl | rfl | rfl | rfl | rfl | rfl
              · exact big _ (by omega)
              · exact big _ (by omega)
              · exact big _ (by omega)
              · exact big _ (by omega)
              · exact big _ (by omega)
              · have := int_text_length_le10 (k := 19) (a := i) (by decide) (by
                  have h3 : (10 : Nat) ^ 19 = 10000000000000000000 := by decide
                  omega)
                have e : (Str.ofString (toString i)).cps.size = (toString i).length := PySem.ofString_length _
                simp only [lD, e]
                omega
              · simp only [lD]; omega
            simp only [List.mem_cons, List.not_mem_nil, or_false] at hz
            rcases hz with rfl | rfl | rfl | rfl | rfl | rfl | rfl
            · exact ay_int (by omega)
            · exact ay_int (by omega)
            · exact ay_int (by omega)
            · exact ay_int (by omega)
            · exact ay_int (by omega)
            · refine ⟨?_, sok_iff.mpr (sok_of _)⟩
              have h60 : i.natAbs < 2 ^ 60 := pow_mono hi hn2
              have h19 : i.natAbs < 10 ^ 19 := by
                have h6 : (2 : Nat) ^ 60 < 10 ^ 19 := by decide
                omega
              have := int_text_length_le10 (k := 19) (by decide) h19
              show (Str.ofString (toString i)).length ≤ 1000
              rw [PySem.ofString_length]
              omega
            · exact trivial
          | _ => exact ht.elim
      · simp only [c_l_bent_3, sIf_eq, bAnd_eq, tTru_eq, eOp_eq, eC_eq, eVar_s, eVar_0, bind_ok, oGt_int, ha, decide_false, truD_bl, Bool.false_eq_true, if_false, sb_ok, sNil_eq, ws_nx]
        exact fin zs lf0
    match k, ht, hk, hk2, q, leaf with
    | k + 1, ht, hk, hk2, q, leaf =>
      cases d with
      | tup xs =>
        have hl := ht.1
        have cx : Cn 40 (.tup xs) := (Ti.cn (k := k + 1) ht).le (by omega)
        have ce : Cn 40 (.tup []) := by simp [Cn, Cns]
        by_cases he : xs = []
        · have ne : oNe (.tup xs) (.tup []) (Pn ns p T) = .ok (.bl false) (Pn ns p T) := by
            rw [oNe_cn cx ce, he, gd_of rfl]; rfl
          simp only [c_l_bent_0, sIf_eq, bAnd_eq, tTru_eq, eOp_eq, eIs_eq, eTup_eq, aNil_eq, eC_eq, eVar_s, eVar_0, bind_ok, isD_eq, tyD_tup, kb_tuple_tuple, truD_bl, if_true, List.length_nil, z0, ne, Bool.false_eq_true, if_false, sb_ok, sNil_eq, ws_nx]
          exact leaf p (h.mono (by omega))
        · have ne : oNe (.tup xs) (.tup []) (Pn ns p T) = .ok (.bl true) (Pn ns p T) := by
            rw [oNe_cn cx ce]
            have : gd (D.tup xs = D.tup []) = false := gd_no fun e => he (by simpa using e)
            rw [this]; rfl
          simp only [c_l_bent_0, sIf_eq, bAnd_eq, tTru_eq, eOp_eq, eIs_eq, eTup_eq, aNil_eq, eC_eq, eVar_s, eVar_0, bind_ok, isD_eq, tyD_tup, kb_tuple_tuple, truD_bl, if_true, List.length_nil, z0, ne, eCall_eq, aCons_eq, ws_sb, wp_bind]
          refine wp_draw h (by omega) (by decide) (by decide) fun a p1 a0 a1 h1 => ?_
          simp only [wp_ok, wp_bind, bind_ok, oGt_int, truD_bl]
          by_cases ha : 0 < a
          · simp only [decide_eq_true ha, if_true]
            have l1 := List.length_pos_iff.mpr he
            refine ws_seq ?_
            simp only [sAsg_nm, eCall_eq, eB_eq, aCons_eq, aNil_eq, eVar_s, eVar_0, bind_ok, cLen_tup, ws_sb]
            refine wp_draw h1 (by omega) (by omega) (by omega) fun b p2 b0 b1 h2 => ?_
            simp only [ws_nx, List.set]
            obtain ⟨v, hv, ev⟩ := atI_mem (l := xs) b0 b1
            have ht' := ht.2 v hv
            have c1 := cutD_len' (xs := xs) (lo := none) (hi := some b)
            have c2 := cutD_len' (xs := xs) (lo := some (b + 1)) (hi := none)
            have zc1 : szOk ((cutD xs none (some b)).length + (0 + 1)) = true := gd_of (by omega)
            have zc2 : ∀ y : D, szOk ((cutD xs none (some b) ++ [y]).length + (cutD xs (some (b + 1)) none).length) = true := fun y => gd_of (by rw [List.length_append, List.length_singleton]; omega)
            simp only [sRet_eq, eOp_eq, eTup_eq, eCall_eq, eSl_eq, pAt_eq, pNo_eq, aCons_eq, aNil_eq, eC_eq, eVar_s, eVar_0, bind_ok, oSl_tup, oIx_tup, ev, ws_sb, wp_bind]
            have hL' : lDs xs + 3 ≤ L := by rw [lD] at hL; exact hL
            refine wp_bent (L := L) hn hn2 hw hw2 K k (by omega) (by omega) ht' (by have := lD_mem hv; omega) h2 (by omega) fun y p3 hy hy2 h3 => ?_
            simp only [wp_ok, wp_bind, bind_ok, List.length_cons, List.length_nil, z1, if_true, oAdd_tup, zc1, oAdd_int, oSl_tup, zc2, ws_rt]
            have res : Ay (n + 1) (2 * w + 1) (k + 1 + 3) (.tup (cutD xs none (some b) ++ [y] ++ cutD xs (some (b + 1)) none)) := by
              refine ay_tup (k := k + 3) ?_ fun x hx => ?_
              · rw [List.length_append, List.length_append, List.length_singleton]
                omega
              · have old : ∀ x ∈ xs, Ay (n + 1) (2 * w + 1) (k + 3) x := fun x hx => ((((ht.2 x hx).ay.bits (Nat.le_succ n)).mono (by omega)).le (by omega))
                rcases List.mem_append.mp hx with hx | hx
                · rcases List.mem_append.mp hx with hx | hx
                  · exact old x (cutD_mem' hx)
                  · rw [List.mem_singleton.mp hx]; exact hy
                · exact old x (cutD_mem' hx)
            refine ⟨Pn ns p3 T, [], _, by simp, kp_pen, frz_pl 40 _ ((res.pl40 (by omega)).le (by decide)), q _ p3 res (by
              have a1 := lDs_cut (a := xs) none (some b)
              have a2 := lDs_cut (a := xs) (some (b + 1)) none
              rw [lD, lDs_app, lDs_app, Nat.mul_succ]
              simp only [lDs]
              omega) (h3.mono (by omega))⟩
          · simp only [decide_eq_false ha, Bool.false_eq_true, if_false, sNil_eq, ws_nx]
            exact leaf p1 h1
      | int i =>
        simp only [c_l_bent_0, sIf_eq, bAnd_eq, tTru_eq, eIs_eq, eVar_s, eVar_0, bind_ok, isD_eq, tyD_int, kb_int_tuple, truD_bl, Bool.false_eq_true, if_false, sb_ok, sNil_eq, ws_nx]
        exact leaf p (h.mono (by omega))
      | _ => exact ht.elim
end
end Fx
set_option Elab.async false
set_option linter.all false
set_option maxRecDepth 100000
/-! repr of data in which an empty dict may lie -/
namespace DV
open PySem PySem.Spec PyProof.Rows L2
mutual
def pyQ : D → PyData
  | .tup xs => .tuple (pyQs xs)
  | .lst xs => .list (pyQs xs)
  | .bl b => .bool b
  | .int i => .int i
  | .str s => .str s
  | .dct _ => .dict []
  | _ => .none
def pyQs : List D → List PyData
  | [] => []
  | d :: ds => pyQ d :: pyQs ds
end
mutual
def Rv : Nat → D → Prop
  | 0, _ => False
  | k + 1, .tup xs => Rvs k xs
  | k + 1, .lst xs => Rvs k xs
  | _ + 1, .non => True
  | _ + 1, .bl _ => True
  | _ + 1, .int i => i.natAbs.log2 < 1920
  | _ + 1, .str s => PyData.strOk s = true
  | _ + 1, .dct kvs => kvs = []
  | _ + 1, _ => False
def Rvs : Nat → List D → Prop
  | _, [] => True
  | 0, _ :: _ => False
  | k + 1, d :: ds => Rv k d ∧ Rvs (k + 1) ds
end
theorem rvs_iff {k : Nat} : ∀ {ds : List D}, Rvs (k + 1) ds ↔ ∀ d ∈ ds, Rv k d
  | [] => by simp [Rvs]
  | d :: ds => by simp [Rvs, rvs_iff (k := k) (ds := ds)]
mutual
theorem Rv.up : ∀ {k : Nat} {d : D}, Rv k d → Rv (k + 1) d
  | 0, _, h => by simp [Rv] at h
  | k + 1, .tup xs, h => by simp only [Rv] at h ⊢; exact Rvs.up h
  | k + 1, .lst xs, h => by simp only [Rv] at h ⊢; exact Rvs.up h
  | _ + 1, .non, _ => by simp [Rv]
  | _ + 1, .bl _, _ => by simp [Rv]
  | _ + 1, .int _, h => by simp only [Rv] at h ⊢; exact h
  | _ + 1, .str _, h => by simp only [Rv] at h ⊢; exact h
  | _ + 1, .ob _, h => by simp [Rv] at h
  | _ + 1, .dct _, h => by simp only [Rv] at h ⊢; exact h
  | _ + 1, .dtt _, h => by simp [Rv] at h
  | _ + 1, .ins _ _ _, h => by simp [Rv] at h
  | _ + 1, .exc _, h => by simp [Rv] at h
  | _ + 1, .ro _, h => by simp [Rv] at h
  | _ + 1, .gl _, h => by simp [Rv] at h
theorem Rvs.up : ∀ {k : Nat} {ds : List D}, Rvs k ds → Rvs (k + 1) ds
  | _, [], _ => by simp [Rvs]
  | 0, _ :: _, h => by simp [Rvs] at h
  | k + 1, d :: ds, h => by
    simp only [Rvs] at h ⊢
    exact ⟨h.1.up, h.2.up⟩
end
theorem Rv.le {d : D} {k j : Nat} (h : Rv k d) (hj : k ≤ j) : Rv j d := by
  induction hj with
  | refl => exact h
  | step _ ih => exact ih.up
mutual
theorem rv_py : ∀ {k : Nat} {d : D}, Rv k d → (∀ S, pyOfD k S d = some (pyQ d)) ∧ (pyQ d).showable = true ∧ (pyQ d).depth ≤ k ∧ (pyQ d).shown.length ≤ lD d ∧ Sok' (pyQ d).shown
  | 0, _, h => by simp [Rv] at h
  | k + 1, .tup xs, h => by
    simp only [Rv] at h
    obtain ⟨h1, h2, h4, h5, h8⟩ := rvs_py h
    refine ⟨fun S => by simp only [pyOfD, h1 S, Option.map_some, pyQ], by simpa [pyQ, PyData.showable] using h2, by simp only [pyQ, PyData.depth]; omega, ?_, ?_⟩
    · simp only [pyQ]
      rw [PyData.shown]
      have := tupleText_len_le (PyData.shownAll (pyQs xs))
      simp only [lD]
      omega
    · simp only [pyQ]
      rw [PyData.shown_tuple]
      refine sok_app (sok_app (sok_of "(") (sok_join (sok_of ", ") _ h8)) ?_
      split <;> exact sok_of _
  | k + 1, .lst xs, h => by
    simp only [Rv] at h
    obtain ⟨h1, h2, h4, h5, h8⟩ := rvs_py h
    refine ⟨fun S => by simp only [pyOfD, h1 S, Option.map_some, pyQ], by simpa [pyQ, PyData.showable] using h2, by simp only [pyQ, PyData.depth]; omega, ?_, ?_⟩
    · simp only [pyQ]
      rw [PyData.shown]
      have := listText_len_le (PyData.shownAll (pyQs xs))
      simp only [lD]
      omega
    · simp only [pyQ]
      rw [PyData.shown_list]
      exact sok_app (sok_app (sok_of "[") (sok_join (sok_of ", ") _ h8)) (sok_of "]")
  | _ + 1, .non, _ => ⟨fun S => by simp [pyOfD, pyQ], by simp [pyQ, PyData.showable], by simp [pyQ, PyData.depth], by simp only [pyQ, lD]; decide, sok_of "None"⟩
  | _ + 1, .bl b, _ => ⟨fun S => by simp [pyOfD, pyQ], by simp [pyQ, PyData.showable], by simp [pyQ, PyData.depth], by cases b <;> (simp only [pyQ, lD]; decide), by cases b; exact sok_of "False"; exact sok_of "True"⟩
  | _ + 1, .int i, h => by
    simp only [Rv] at h
    exact ⟨fun S => by simp [pyOfD, pyQ], by simpa [pyQ, PyData.showable] using h, by simp [pyQ, PyData.depth], by simp only [pyQ, lD]; exact Nat.le_refl _, by simp only [pyQ, PyData.shown]; exact sok_of _⟩
  | _ + 1, .str s, h => by
    simp only [Rv] at h
    have sk := sok_iff.mp h
    refine ⟨fun S => by simp [pyOfD, pyQ], by simp [pyQ, PyData.showable], by simp [pyQ, PyData.depth], ?_, by simp only [pyQ, PyData.shown]; exact sok_repr sk⟩
    have e := StrLaws.reprText_len s (fun c hc => by
      have := sk c hc
      have : (16 : Nat) ^ 8 = 4294967296 := by decide
      omega)
    have e2 : s.length = s.cps.size := rfl
    simp only [pyQ, PyData.shown, lD]
    omega
  | _ + 1, .ob _, h => by simp [Rv] at h
  | _ + 1, .dct kvs, h => by
    simp only [Rv] at h
    subst h
    refine ⟨fun S => by simp [pyOfD, pyQ, pyOf.pyAll], by simp [pyQ, PyData.showable, PyData.showableKv], by simp [pyQ, PyData.depth, PyData.depthKv], by simp only [pyQ, lD]; decide, ?_⟩
    simp only [pyQ]
    exact sok_of "{}"
  | _ + 1, .dtt _, h => by simp [Rv] at h
  | _ + 1, .ins _ _ _, h => by simp [Rv] at h
  | _ + 1, .exc _, h => by simp [Rv] at h
  | _ + 1, .ro _, h => by simp [Rv] at h
  | _ + 1, .gl _, h => by simp [Rv] at h
theorem rvs_py : ∀ {k : Nat} {ds : List D}, Rvs k ds → (∀ S, pyOf.pyAll (pyOfD k S) ds = some (pyQs ds)) ∧ PyData.showableAll (pyQs ds) = true ∧ PyData.depthAll (pyQs ds) ≤ k ∧ ((PyData.shownAll (pyQs ds)).map (·.length)).sum + 2 * (PyData.shownAll (pyQs ds)).length ≤ lDs ds ∧ ∀ t ∈ PyData.shownAll (pyQs ds), Sok' t
  | _, [], _ => ⟨fun S => by simp [pyOf.pyAll, pyQs], by simp [pyQs, PyData.showableAll], by simp [pyQs, PyData.depthAll], by simp [pyQs, PyData.shownAll, lDs], by simp [pyQs, PyData.shownAll]⟩
  | 0, _ :: _, h => by simp [Rvs] at h
  | k + 1, d :: ds, h => by
    simp only [Rvs] at h
    obtain ⟨a1, a2, a4, a5, a8⟩ := rv_py h.1.up
    obtain ⟨_, _, a4', _⟩ := rv_py h.1
    obtain ⟨b1, b2, b4, b5, b8⟩ := rvs_py h.2
    refine ⟨fun S => by simp only [pyOf.pyAll, a1 S, b1 S, pyQs], by simp [pyQs, PyData.showableAll, a2, b2], by simp only [pyQs, PyData.depthAll]; omega, by simp only [pyQs, PyData.shownAll, lDs, List.map_cons, List.sum_cons, List.length_cons]; omega, ?_⟩
    intro t ht
    simp only [pyQs, PyData.shownAll, List.mem_cons] at ht
    rcases ht with rfl | ht
    · exact a8
    · exact b8 t ht
end
/-- repr of data -/
theorem repr_okQ {d : D} (h : Rv 40 d) (hw : lD d ≤ 1000000) (S : Sto) : cReprQ [d] S = .ok (.str (pyQ d).shown) S := by
  obtain ⟨h1, h2, h4, h5, h8⟩ := rv_py h
  have g : reprOkQ (pyQ d) = true := gd_of ⟨h2, by omega, by omega⟩
  simp only [cReprQ, h1 S, g, if_true]
theorem repr_strQ {d : D} (h : Rv 40 d) : PyData.strOk (pyQ d).shown = true := sok_iff.mpr (rv_py h).2.2.2.2
end DV
set_option Elab.async false
set_option linter.all false
set_option maxRecDepth 100000
set_option exponentiation.threshold 20000
/-! things that are no tempo, as the laws lay them -/
namespace Fx
open PySem PySem.Spec L2 DV
theorem Sok.mono {B C : Nat} {s : St} (h : Sok B s) (hB : B ≤ C) (hC : C ≤ 1000) : Sok C s := ⟨hC, h.m1, h.m2, h.f0, h.l0, h.bf.mono hB, h.bl.mono hB⟩
theorem Tok.mono {B C : Nat} {ss : List St} {r : Rat} (h : Tok B ss r) (hB : B ≤ C) (hC : C ≤ 1000) : Tok C ss r := ⟨h.n24, fun s hs => (h.all s hs).mono hB hC, h.r0, h.br.mono hB, h.sum, h.plain, h.last⟩
def Bad (d : D) : Prop := Ay 41 60 10 d ∧ ¬ Tm d
theorem tpL (xs : List D) : lD (.tup xs) = lDs xs + 3 := by rw [lD]
theorem lsL (xs : List D) : lD (.lst xs) = lDs xs + 3 := by rw [lD]
theorem lcL (d : D) (ds : List D) : lDs (d :: ds) = lD d + 2 + lDs ds := by rw [lDs]
theorem lnL : lDs [] = 0 := by rw [lDs]
theorem Ay.rv {n w : Nat} (hn : n ≤ 1900) : ∀ {k : Nat} {d : D}, Ay n w k d → Rv (k + k) d
  | 0, _, h => h.elim
  | k + 1, .tup xs, h => by
    rw [show k + 1 + (k + 1) = (k + k + 1) + 1 by omega]
    simp only [Rv]
    exact rvs_iff.mpr fun d hd => (h.2 d hd).rv hn
  | k + 1, .lst xs, h => by
    rw [show k + 1 + (k + 1) = (k + k + 1) + 1 by omega]
    simp only [Rv]
    exact rvs_iff.mpr fun d hd => (h.2 d hd).rv hn
  | k + 1, .int i, h => by
    rw [show k + 1 + (k + 1) = (k + k + 1) + 1 by omega]
    simp only [Rv]
    by_cases h0 : i.natAbs = 0
    · rw [h0]; decide
    · exact (Nat.log2_lt h0).mpr (pow_mono (show i.natAbs < 2 ^ n from h) (by omega))
  | k + 1, .str _, h => by
    rw [show k + 1 + (k + 1) = (k + k + 1) + 1 by omega]
    simp only [Rv]
    exact h.2
  | k + 1, .dct _, h => by
    rw [show k + 1 + (k + 1) = (k + k + 1) + 1 by omega]
    simp only [Rv]
    exact h
  | k + 1, .non, _ => by rw [show k + 1 + (k + 1) = (k + k + 1) + 1 by omega]; simp [Rv]
  | k + 1, .bl _, _ => by rw [show k + 1 + (k + 1) = (k + k + 1) + 1 by omega]; simp [Rv]
  | _ + 1, .ob _, h => h.elim
  | _ + 1, .dtt _, h => h.elim
  | _ + 1, .ins _ _ _, h => h.elim
  | _ + 1, .exc _, h => h.elim
  | _ + 1, .ro _, h => h.elim
  | _ + 1, .gl _, h => h.elim
theorem ldR40 {q : Rat} (h : Bq 40 q) : lD (fq q) ≤ 35 := by
  have h1 : (2 : Nat) ^ 40 < 10 ^ 13 := by decide
  have a := lD_int (i := q.num) (k := 13) (by decide) (by have := h.1; omega)
  have b := lD_int (i := (q.den : Int)) (k := 13) (by decide) (by have := h.2; rw [den_abs]; omega)
  rw [fq, tpL, lcL, lcL, lnL]
  omega
theorem ldS40 {ss : List St} (h : ∀ s ∈ ss, Sok 40 s) (hl : ss.length ≤ 24) : lDs (ss.map sd) ≤ 2112 := by
  have := lDs_le (w := 86) (ds := ss.map sd) fun d hd => by
    obtain ⟨s, hs, rfl⟩ := List.mem_map.mp hd
    have ok := h s hs
    have a := lD_int (i := s.m) (k := 6) (by decide) (by have := ok.m1; have := ok.m2; omega)
    have b := ldR40 ok.bf
    have c := ldR40 ok.bl
    rw [sd, tpL, lcL, lcL, lcL, lnL]
    omega
  rw [List.length_map] at this
  omega
theorem ldT40 {ss : List St} {R : Rat} (h : Tok 40 ss R) : lD (td ss R) ≤ 2157 := by
  have a := ldS40 h.all h.n24
  have b := ldR40 h.br
  rw [td, tpL, lcL, lcL, lnL, tpL]
  omega
section
variable {n w k : Nat} {a b c d : D} {ss : List St} {R : Rat}
theorem ay1 (hw : 3 ≤ w) (ha : Ay n w k a) : Ay n w (k + 1) (.tup [a]) := ay_tup (by simp; omega) fun d hd => by rw [List.mem_singleton.mp hd]; exact ha
theorem ay2 (hw : 3 ≤ w) (ha : Ay n w k a) (hb : Ay n w k b) : Ay n w (k + 1) (.tup [a, b]) := ay_tup (by simp; omega) fun d hd => by
  simp only [List.mem_cons, List.not_mem_nil, or_false] at hd
  rcases hd with rfl | rfl
  · exact ha
  · exact hb
theorem ay3 (hw : 3 ≤ w) (ha : Ay n w k a) (hb : Ay n w k b) (hc : Ay n w k c) : Ay n w (k + 1) (.tup [a, b, c]) := ay_tup (by simp; omega) fun d hd => by
  simp only [List.mem_cons, List.not_mem_nil, or_false] at hd
  rcases hd with rfl | rfl | rfl
  · exact ha
  · exact hb
  · exact hc
theorem ayl2 (hw : 3 ≤ w) (ha : Ay n w k a) (hb : Ay n w k b) : Ay n w (k + 1) (.lst [a, b]) := ay_lst (by simp; omega) fun d hd => by
  simp only [List.mem_cons, List.not_mem_nil, or_false] at hd
  rcases hd with rfl | rfl
  · exact ha
  · exact hb
theorem ayl3 (hw : 3 ≤ w) (ha : Ay n w k a) (hb : Ay n w k b) (hc : Ay n w k c) : Ay n w (k + 1) (.lst [a, b, c]) := ay_lst (by simp; omega) fun d hd => by
  simp only [List.mem_cons, List.not_mem_nil, or_false] at hd
  rcases hd with rfl | rfl | rfl
  · exact ha
  · exact hb
  · exact hc
theorem aypr {i j : Int} (hi : i.natAbs < 2 ^ 18) (hj : j.natAbs < 2 ^ 18) : Ay 41 60 (k + 2) (.tup [.int i, .int j]) := ay2 (by decide) (ay_int (pow_mono hi (by decide))) (ay_int (pow_mono hj (by decide)))
theorem no_sd_fq {s : St} {q : Rat} : sd s ≠ fq q := by simp [sd, fq]
theorem no_tm_len {xs : List D} (h : xs.length ≠ 2) : ¬ Tm (.tup xs) := fun ⟨ss, q, e, _⟩ => by
  simp only [td, D.tup.injEq] at e
  rw [e] at h
  exact h rfl
theorem no_tm_hd {a b : D} (h : ∀ ts : List St, ts.length ≤ 24 → a ≠ .tup (ts.map sd)) : ¬ Tm (.tup [a, b]) := fun ⟨ss, q, e, t⟩ => by
  simp only [td, D.tup.injEq, List.cons.injEq, and_true] at e
  exact h ss t.n24 e.1
theorem no_tm_one {a b : D} (h : ∀ s : St, a ≠ sd s) : ¬ Tm (.tup [.tup [a], b]) := no_tm_hd fun ts _ e => by
  simp only [D.tup.injEq] at e
  match ts, e with
  | [], e => simp at e
  | [s], e => exact h s (by simpa using e)
  | _ :: _ :: _, e => simp at e
theorem bad1 (h : Tok 40 ss R) : Bad (.tup [.tup (ss.map sd), .tup [.int 0, .int 1]]) := by
  refine ⟨ay2 (k := 9) (by decide) (ay_sds (k := 5) (fun s hs => (h.all s hs).mono (by decide) (by decide)) (by have := h.n24; omega) (by decide) (by decide)) (aypr (k := 7) (by decide) (by decide)), fun t => ?_⟩
  have : D.tup [.tup (ss.map sd), .tup [.int 0, .int 1]] = td ss 0 := rfl
  rw [this, tm_td] at t
  exact absurd t.r0 (by decide)
theorem aysd (h : Tok 40 ss R) : Ay 41 60 (k + 4) (.tup (ss.map sd)) := ay_sds (fun s hs => (h.all s hs).mono (by decide) (by decide)) (by have := h.n24; omega) (by decide) (by decide)
theorem ayR (h : Tok 40 ss R) : Ay 41 60 (k + 2) (fq R) := ay_fq (h.br.mono (by decide)) (by decide)
theorem aysn (h : Tok 40 ss R) (ha : Ay 41 60 (k + 4) a) : Ay 41 60 (k + 5) (.tup (ss.map sd ++ [a])) := ay_tup (by have := h.n24; simp; omega) fun d hd => by
  rcases List.mem_append.mp hd with hd | hd
  · exact (aysd (k := k) h).2 d hd |>.up
  · rw [List.mem_singleton.mp hd]; exact ha
theorem one_fq : D.tup [.int 1, .int 1] = fq 1 := rfl
theorem two_fq : D.tup [.int 2, .int 1] = fq 2 := rfl
theorem three_fq : D.tup [.int 3, .int 1] = fq 3 := rfl
theorem bad2 (h : Tok 40 ss R) : Bad (.tup [.tup (ss.map sd ++ [.tup [.int 0, .tup [.int 1, .int 1], .tup [.int 2, .int 1]]]), fq R]) := by
  refine ⟨ay2 (k := 9) (by decide) (aysn (k := 4) h (ay3 (k := 7) (by decide) (ay_int (by decide)) (aypr (k := 5) (by decide) (by decide)) (aypr (k := 5) (by decide) (by decide)))) (ayR (k := 7) h), fun t => ?_⟩
  have : D.tup [.tup (ss.map sd ++ [.tup [.int 0, .tup [.int 1, .int 1], .tup [.int 2, .int 1]]]), fq R] = td (ss ++ [⟨0, 1, 2⟩]) R := by
    rw [td, List.map_append]; rfl
  rw [this, tm_td] at t
  exact absurd (t.all ⟨0, 1, 2⟩ (by simp)).1 (by decide)
theorem bad3 (h : Tok 40 ss R) : Bad (.tup [.tup (ss.map sd)]) := ⟨ay1 (k := 9) (by decide) (aysd (k := 5) h), no_tm_len (by simp)⟩
theorem bad4 (h : Tok 40 ss R) : Bad (.lst [.tup (ss.map sd), fq R]) := ⟨ayl2 (k := 9) (by decide) (aysd (k := 5) h) (ayR (k := 7) h), fun ⟨_, _, e, _⟩ => by simp [td] at e⟩
theorem bad5 : Bad .non := ⟨trivial, fun ⟨_, _, e, _⟩ => by simp [td] at e⟩
theorem bad6 (h : Tok 40 ss R) : Bad (.tup (ss.map sd)) := ⟨aysd (k := 6) h, fun ⟨ts, q, e, _⟩ => by
  simp only [td, D.tup.injEq] at e
  match ss, e with
  | [], e => simp at e
  | [_], e => simp at e
  | [_, s], e =>
    simp only [List.map_cons, List.map_nil, List.cons.injEq, and_true] at e
    exact no_sd_fq e.2
  | _ :: _ :: _ :: _, e => simp at e⟩
/-- the k-th of twenty-five stretches -/
def farD (j : Nat) : D := .tup [.int (1 + j), .tup [.int (1 + (j : Int) % 2), .int 3], .tup [.int (1 + (j : Int) % 2), .int 3]]
theorem ayfar : Ay 41 60 9 (.tup ((List.range 25).map farD)) := ay_tup (by simp) fun d hd => by
  obtain ⟨j, hj, rfl⟩ := List.mem_map.mp hd
  have := List.mem_range.mp hj
  exact ay3 (k := 7) (by decide) (ay_int (pow_mono (n := 18) (by omega) (by decide))) (aypr (k := 5) (by omega) (by decide)) (aypr (k := 5) (by omega) (by decide))
theorem bad7 : Bad (.tup [.tup ((List.range 25).map farD), .tup [.int 3, .int 1]]) := ⟨ay2 (k := 9) (by decide) ayfar (aypr (k := 7) (by decide) (by decide)), no_tm_hd fun ts hl e => by
  have e1 := congrArg (fun d => match d with | D.tup xs => xs.length | _ => 0) e
  simp only [List.length_map, List.length_range] at e1
  omega⟩
theorem bad8 (h : Tok 40 ss R) : Bad (.tup [.tup [.tup [.int 200001, .tup [.int 1, .int 1], .tup [.int 2, .int 1]]], fq R]) := by
  refine ⟨ay2 (k := 9) (by decide) (ay1 (k := 8) (by decide) (ay3 (k := 7) (by decide) (ay_int (by decide)) (aypr (k := 5) (by decide) (by decide)) (aypr (k := 5) (by decide) (by decide)))) (ayR (k := 7) h), fun t => ?_⟩
  have : D.tup [.tup [.tup [.int 200001, .tup [.int 1, .int 1], .tup [.int 2, .int 1]]], fq R] = td [⟨200001, 1, 2⟩] R := rfl
  rw [this, tm_td] at t
  exact absurd (t.all ⟨200001, 1, 2⟩ (by simp)).2.1 (by decide)
theorem bad9 (h : Tok 40 ss R) : Bad (.tup [.tup (ss.map sd ++ [.tup [.int 7, fq R, fq R]]), fq R]) := by
  refine ⟨ay2 (k := 9) (by decide) (aysn (k := 4) h (ay3 (k := 7) (by decide) (ay_int (by decide)) (ayR (k := 5) h) (ayR (k := 5) h))) (ayR (k := 7) h), fun t => ?_⟩
  have : D.tup [.tup (ss.map sd ++ [.tup [.int 7, fq R, fq R]]), fq R] = td (ss ++ [⟨7, R, R⟩]) R := by
    rw [td, List.map_append]; rfl
  rw [this, tm_td] at t
  exact t.last (by simp) (by simp)
theorem bad10 (h : Tok 40 ss R) : Bad (.tup [.tup (ss.map sd), fq R, fq R]) := ⟨ay3 (k := 9) (by decide) (aysd (k := 5) h) (ayR (k := 7) h) (ayR (k := 7) h), no_tm_len (by simp)⟩
theorem bad11 (h : Tok 40 ss R) : Bad (.tup [.tup [.tup [.int 2, .tup [.int 1, .int 1], .tup [.int 2, .int 1]], .tup [.int 2, .tup [.int 2, .int 1], .tup [.int 3, .int 1]]], fq R]) := by
  refine ⟨ay2 (k := 9) (by decide) (ay2 (k := 8) (by decide) (ay3 (k := 7) (by decide) (ay_int (by decide)) (aypr (k := 5) (by decide) (by decide)) (aypr (k := 5) (by decide) (by decide))) (ay3 (k := 7) (by decide) (ay_int (by decide)) (aypr (k := 5) (by decide) (by decide)) (aypr (k := 5) (by decide) (by decide)))) (ayR (k := 7) h), fun t => ?_⟩
  have : D.tup [.tup [.tup [.int 2, .tup [.int 1, .int 1], .tup [.int 2, .int 1]], .tup [.int 2, .tup [.int 2, .int 1], .tup [.int 3, .int 1]]], fq R] = td [⟨2, 1, 2⟩, ⟨2, 2, 3⟩] R := rfl
  rw [this, tm_td] at t
  refine t.plain 0 (by simp) ⟨rfl, ?_⟩
  show ((2 : Rat) - 1) / ((2 : Int) : Rat) = ((3 : Rat) - 2) / ((2 : Int) : Rat)
  grind
theorem bad12 (h : Tok 40 ss R) : Bad (.tup [.tup [.tup [.int 1, .tup [.int 2, .int 4], .tup [.int 1, .int 1]]], fq R]) :=
  ⟨ay2 (k := 9) (by decide) (ay1 (k := 8) (by decide) (ay3 (k := 7) (by decide) (ay_int (by decide)) (aypr (k := 5) (by decide) (by decide)) (aypr (k := 5) (by decide) (by decide)))) (ayR (k := 7) h), no_tm_one fun s e => by
    simp only [sd, fq, D.tup.injEq, List.cons.injEq, D.int.injEq, and_true] at e
    have c := s.f.reduced
    have e1 : s.f.num = 2 := e.2.1.1.symm
    have e2 : s.f.den = 4 := by have := e.2.1.2; omega
    rw [e1, e2] at c
    exact absurd c (by decide)⟩
theorem bad13 (h : Tok 40 ss R) : Bad (.tup [.tup [.tup [.bl true, .tup [.int 1, .int 1], .tup [.int 2, .int 1]]], fq R]) :=
  ⟨ay2 (k := 9) (by decide) (ay1 (k := 8) (by decide) (ay3 (k := 7) (by decide) (ay_bl true) (aypr (k := 5) (by decide) (by decide)) (aypr (k := 5) (by decide) (by decide)))) (ayR (k := 7) h), no_tm_one fun s e => by simp [sd] at e⟩
theorem bad14 (h : Tok 40 ss R) : Bad (.tup [.tup [.lst [.int 1, .tup [.int 1, .int 1], .tup [.int 2, .int 1]]], fq R]) :=
  ⟨ay2 (k := 9) (by decide) (ay1 (k := 8) (by decide) (ayl3 (k := 7) (by decide) (ay_int (by decide)) (aypr (k := 5) (by decide) (by decide)) (aypr (k := 5) (by decide) (by decide)))) (ayR (k := 7) h), no_tm_one fun s e => by simp [sd] at e⟩
theorem bad15 (h : Tok 40 ss R) : Bad (.tup [.lst (ss.map sd), fq R]) :=
  ⟨ay2 (k := 9) (by decide) (ay_lst (k := 8) (by have := h.n24; simp; omega) (aysd (k := 5) h).2) (ayR (k := 7) h), no_tm_hd fun ts _ e => by simp at e⟩
theorem oAdd_lsts {xs ys : List D} {S : Sto} (h : szOk (xs.length + ys.length) = true) : oAdd (.lst xs) (.lst ys) S = .ok (.lst (xs ++ ys)) S := by rw [oAdd_lst, if_pos h]
theorem Bad.pl {d : D} (h : Bad d) : Pl 36 d := h.1.pl40 (by decide)
section
variable {ns : List Int} {p : Int × Int} {T : Sto} {Q : D → Sto → Prop} {E : Str → Sto → Prop}
/-- what is drawn to be bent -/
theorem wp_bents (h : Pk p k) (hk : k + 120 ≤ 1000000000000) (ht : Tok 40 ss R) {x2 x3 x4 x5 x6 x7 : Option D} (q : ∀ (ds : List D) p', (∀ d ∈ ds, Ay 41 60 10 d ∧ lD d ≤ 22350) → ds.length = 4 → Pk p' (k + 104) → Q (.lst ds) (Pn ns p' T)) :
    Wp (eLc (iRng (aCons (eC (.int 4)) aNil)) (.nm 5) cYes (eCall F_l_bent (aCons (eVar 0) (aCons (eVar 1) aNil))) [5] [some (.ob 0), some (td ss R), x2, x3, x4, x5, x6, x7] (Pn ns p T)) Q E := by
  have g4 : gd (-(2 ^ 62) ≤ (4 : Int) ∧ (4 : Int) < 2 ^ 62) = true := gd_of (by omega)
  refine wp_lc (n := 4) (xs := fun i => .int (0 + (i : Nat))) (S1 := Pn ns p T) (it := .rng 0 4) (by simp only [iRng_eq, aCons_eq, aNil_eq, eC_eq, bind_ok, g4, if_true]; rfl) (fun i acc T' => ∃ (p' : Int × Int), T' = Pn ns p' T ∧ acc.length = i ∧ (∀ d ∈ acc, Ay 41 60 10 d ∧ lD d ≤ 22350) ∧ Pk p' (k + 26 * i)) rfl (fun i acc T' hi _ => isRng 0 4 _ i hi) (by omega) ⟨p, rfl, rfl, by simp, h⟩ ?_ ?_ ?_
  · rintro i acc T' ⟨p', rfl, hl, hb, _⟩
    exact ⟨kp_pen, by omega, (pls_iff (k := 38)).mpr fun d hd => ((hb d hd).1.pl40 (by decide)).le (by decide)⟩
  · rintro i acc T' hi ⟨p', rfl, hl, hb, h'⟩
    refine ⟨_, put_nm _ _ _ _, ?_⟩
    rw [cYes_eq]
    refine ⟨Pn ns p' T, rfl, rfl, fun _ => ?_, fun z => by cases z⟩
    simp only [wipeD, List.foldl, List.set, eCall_eq, aCons_eq, aNil_eq, eVar_s, eVar_0, bind_ok]
    rw [pn_app]
    refine wp_bent (L := 2200) (n := 40) (w := 24) (by decide) (by decide) (by decide) (by decide) 12 5 (by decide) (by decide) (ti_td (k := 0) ht (by decide) (by decide)) (by have := ldT40 ht; omega) h' (by omega) fun d' p2 hd hd3 h2 => ?_
    refine ⟨Pn ns p2 T, rfl, rfl, p2, rfl, by simp [hl], fun d hd2 => ?_, h2.mono (by omega)⟩
    rcases List.mem_append.mp hd2 with hd2 | hd2
    · exact hb d hd2
    · rw [List.mem_singleton.mp hd2]
      exact ⟨(hd.mono (by decide)).le (by decide), by omega⟩
  · rintro acc T' ⟨p', rfl, hl, hb, h'⟩
    exact q acc p' hb hl (h'.mono (by omega))
theorem wp_bad (h : Pk p k) (hk : k + 120 ≤ 1000000000000) (ht : Tok 40 ss R) (q : ∀ (ds : List D) p', (∀ d ∈ ds, Bad d) → (∀ d ∈ ds, lD d ≤ 22350) → 1 ≤ ds.length → ds.length ≤ 19 → Pk p' (k + 104) → Q (.lst ds) (Pn ns p' T)) : Wp (F_l_bad_tempos [.ob 0, td ss R] (Pn ns p T)) Q E := by
  have z1 : szOk (0 + 1) = true := gd_of (by decide)
  have z2 : szOk (0 + 1 + 1) = true := gd_of (by decide)
  have z3 : szOk (0 + 1 + 1 + 1) = true := gd_of (by decide)
  have z7 : szOk (0 + 1 + 1 + 1 + 1 + 1 + 1 + 1) = true := gd_of (by decide)
  have g25 : gd (-(2 ^ 62) ≤ (25 : Int) ∧ (25 : Int) < 2 ^ 62) = true := gd_of (by omega)
  have n24 := ht.n24
  have zs : szOk ((ss.map sd).length + (0 + 1)) = true := gd_of (by simp; omega)
  refine wp_run ?_
  show Ws (b_l_bad_tempos [some (.ob 0), some (td ss R), none, none, none, none, none, none] (Pn ns p T)) _
  unfold b_l_bad_tempos
  refine ws_step (ρ' := [some (.ob 0), some (td ss R), some (.tup (ss.map sd)), some (fq R), none, none, none, none]) (S' := Pn ns p T) (by simp [c_l_bad_tempos_0, td]) ?_
  have fars : ∀ S, eLc (iRng (aCons (eC (.int 25)) aNil)) (.nm 5) cYes (eTup (aCons (eOp oAdd (eC (.int 1)) (eVar 5)) (aCons (eTup (aCons (eOp oAdd (eC (.int 1)) (eOp oMod (eVar 5) (eC (.int 2)))) (aCons (eC (.int 3)) aNil))) (aCons (eTup (aCons (eOp oAdd (eC (.int 1)) (eOp oMod (eVar 5) (eC (.int 2)))) (aCons (eC (.int 3)) aNil))) aNil)))) [5] [some (.ob 0), some (td ss R), some (.tup (ss.map sd)), some (fq R), none, none, none, none] S = .ok (.lst ((List.range 25).map farD)) S := fun S => by
    refine lc_at (n := 25) (xs := fun j => .int (0 + (j : Nat))) (it := .rng 0 25) (by simp only [iRng_eq, aCons_eq, aNil_eq, eC_eq, bind_ok, g25, if_true]; rfl) rfl (fun E i hi => isRng 0 25 _ i hi) (by decide) (fun j hj => ?_) fun j hj S2 => ?_
    · have : Ay 41 60 9 (.tup ((List.range 25).map farD)) := ayfar
      exact ((this.2 (farD j) (List.mem_map.mpr ⟨j, List.mem_range.mpr hj, rfl⟩)).pl40 (by decide)).le (by decide)
    · refine ⟨_, put_nm _ _ _ _, ?_⟩
      have em : ∀ S, oMod (.int (j : Nat)) (.int 2) S = .ok (.int ((j : Int) % 2)) S := fun S => oMod_int S (by decide)
      simp only [wipeD, List.foldl, List.set, eTup_eq, aCons_eq, aNil_eq, eOp_eq, eC_eq, eVar_s, eVar_0, bind_ok, Int.zero_add, oAdd_int, em, List.length_cons, List.length_nil, z2, z3, if_true]
      rfl
  obtain ⟨fl, hfl⟩ : ∃ fl, fl = D.tup ((List.range 25).map farD) := ⟨_, rfl⟩
  refine ws_step (ρ' := [some (.ob 0), some (td ss R), some (.tup (ss.map sd)), some (fq R), some fl, none, none, none]) (S' := Pn ns p T) (by
    simp only [c_l_bad_tempos_1, sAsg_nm, eB_eq, aCons_eq, aNil_eq, bind_ok, fars, cTuple_lst, ← hfl, sb_ok, List.set]) ?_
  obtain ⟨l1, h1⟩ : ∃ l1 : List D, l1 = [.tup [.tup (ss.map sd), .tup [.int 0, .int 1]], .tup [.tup (ss.map sd ++ [.tup [.int 0, .tup [.int 1, .int 1], .tup [.int 2, .int 1]]]), fq R], .tup [.tup (ss.map sd)], .lst [.tup (ss.map sd), fq R], .non, .tup (ss.map sd), .tup [fl, .tup [.int 3, .int 1]]] := ⟨_, rfl⟩
  refine ws_step (ρ' := [some (.ob 0), some (td ss R), some (.tup (ss.map sd)), some (fq R), some fl, none, some (.lst l1), none]) (S' := Pn ns p T) (by
    have zl : szOk l1.length = true := gd_of (by rw [h1]; simp)
    have cl : ∀ S, cList [td ss R] S = .ok (.lst [.tup (ss.map sd), fq R]) S := fun S => rfl
    simp only [c_l_bad_tempos_2, sAsg_nm, eLst_eq, eTup_eq, eOp_eq, eB_eq, aCons_eq, aNil_eq, eC_eq, eVar_s, eVar_0, bind_ok, List.length_cons, List.length_nil, z1, z2, z3, z7, if_true, oAdd_tup, zs, cl, ← h1, zl, sb_ok, List.set]) ?_
  obtain ⟨l2, h2⟩ : ∃ l2 : List D, l2 = l1 ++ [.tup [.tup [.tup [.int 200001, .tup [.int 1, .int 1], .tup [.int 2, .int 1]]], fq R], .tup [.tup (ss.map sd ++ [.tup [.int 7, fq R, fq R]]), fq R], .tup [.tup (ss.map sd), fq R, fq R]] := ⟨_, rfl⟩
  have n1 : l1.length = 7 := by rw [h1]; rfl
  refine ws_step (ρ' := [some (.ob 0), some (td ss R), some (.tup (ss.map sd)), some (fq R), some fl, none, some (.lst l2), none]) (S' := Pn ns p T) (by
    have za : szOk (l1.length + (0 + 1 + 1 + 1)) = true := gd_of (by omega)
    simp only [c_l_bad_tempos_3, sAsg_nm, eLst_eq, eTup_eq, eOp_eq, eB_eq, aCons_eq, aNil_eq, eC_eq, eVar_s, eVar_0, bind_ok, List.length_cons, List.length_nil, z1, z2, z3, z7, if_true, oAdd_tup, oAdd_lst, zs, za, ← h2, sb_ok, List.set]) ?_
  obtain ⟨l3, h3⟩ : ∃ l3 : List D, l3 = l2 ++ [.tup [.tup [.tup [.int 2, .tup [.int 1, .int 1], .tup [.int 2, .int 1]], .tup [.int 2, .tup [.int 2, .int 1], .tup [.int 3, .int 1]]], fq R], .tup [.tup [.tup [.int 1, .tup [.int 2, .int 4], .tup [.int 1, .int 1]]], fq R]] := ⟨_, rfl⟩
  have n2 : l2.length = 10 := by rw [h2, List.length_append, n1]; rfl
  refine ws_step (ρ' := [some (.ob 0), some (td ss R), some (.tup (ss.map sd)), some (fq R), some fl, none, some (.lst l3), none]) (S' := Pn ns p T) (by
    have za : szOk (l2.length + (0 + 1 + 1)) = true := gd_of (by omega)
    simp only [c_l_bad_tempos_4, sAsg_nm, eLst_eq, eTup_eq, eOp_eq, eB_eq, aCons_eq, aNil_eq, eC_eq, eVar_s, eVar_0, bind_ok, List.length_cons, List.length_nil, z1, z2, z3, z7, if_true, oAdd_tup, oAdd_lst, zs, za, ← h3, sb_ok, List.set]) ?_
  obtain ⟨l4, h4⟩ : ∃ l4 : List D, l4 = l3 ++ [.tup [.tup [.tup [.bl true, .tup [.int 1, .int 1], .tup [.int 2, .int 1]]], fq R], .tup [.tup [.lst [.int 1, .tup [.int 1, .int 1], .tup [.int 2, .int 1]]], fq R], .tup [.lst (ss.map sd), fq R]] := ⟨_, rfl⟩
  have n3 : l3.length = 12 := by rw [h3, List.length_append, n2]; rfl
  refine ws_step (ρ' := [some (.ob 0), some (td ss R), some (.tup (ss.map sd)), some (fq R), some fl, none, some (.lst l4), none]) (S' := Pn ns p T) (by
    have za : szOk (l3.length + (0 + 1 + 1 + 1)) = true := gd_of (by omega)
    simp only [c_l_bad_tempos_5, sAsg_nm, eLst_eq, eTup_eq, eOp_eq, eB_eq, aCons_eq, aNil_eq, eC_eq, eVar_s, eVar_0, bind_ok, List.length_cons, List.length_nil, z1, z2, z3, z7, if_true, oAdd_tup, oAdd_lst, cList_tup, zs, za, ← h4, sb_ok, List.set]) ?_
  have n4 : l4.length = 15 := by rw [h4, List.length_append, n3]; rfl
  have b4 : ∀ d ∈ l4, Bad d := fun d hd => by
    rw [h4, h3, h2, h1, hfl] at hd
    simp only [List.mem_append, List.mem_cons, List.not_mem_nil, or_false] at hd
    rcases hd with (((rfl | rfl | rfl | rfl | rfl | rfl | rfl) | rfl | rfl | rfl) | rfl | rfl) | rfl | rfl | rfl
    · exact bad1 ht
    · exact bad2 ht
    · exact bad3 ht
    · exact bad4 ht
    · exact bad5
    · exact bad6 ht
    · exact bad7
    · exact bad8 ht
    · exact bad9 ht
    · exact bad10 ht
    · exact bad11 ht
    · exact bad12 ht
    · exact bad13 ht
    · exact bad14 ht
    · exact bad15 ht
  have l4b : ∀ d ∈ l4, lD d ≤ 22350 := fun d hd => by
    have i0 := lD_int (i := 0) (k := 1) (by decide) (by decide)
    have i1 := lD_int (i := 1) (k := 1) (by decide) (by decide)
    have i2 := lD_int (i := 2) (k := 1) (by decide) (by decide)
    have i3 := lD_int (i := 3) (k := 1) (by decide) (by decide)
    have i4 := lD_int (i := 4) (k := 1) (by decide) (by decide)
    have i7 := lD_int (i := 7) (k := 1) (by decide) (by decide)
    have ib := lD_int (i := 200001) (k := 6) (by decide) (by decide)
    have sR := ldR40 ht.br
    have sS := ldS40 ht.all ht.n24
    have bl : lD (.bl true) = 5 := by simp only [lD]
    have non : lD .non = 5 := by simp only [lD]
    have far : lDs ((List.range 25).map farD) ≤ 1500 := by
      have := lDs_le (w := 50) (ds := (List.range 25).map farD) fun d hd => by
        obtain ⟨j, hj, rfl⟩ := List.mem_map.mp hd
        have hj := List.mem_range.mp hj
        have a := lD_int (i := 1 + (j : Int)) (k := 2) (by decide) (by omega)
        have b := lD_int (i := 1 + (j : Int) % 2) (k := 1) (by decide) (by omega)
        rw [farD]
        simp only [tpL, lcL, lnL]
        omega
      rw [List.length_map, List.length_range] at this
      omega
    rw [h4, h3, h2, h1, hfl] at hd
    simp only [List.mem_append, List.mem_cons, List.not_mem_nil, or_false] at hd
    rcases hd with (((rfl | rfl | rfl | rfl | rfl | rfl | rfl) | rfl | rfl | rfl) | rfl | rfl) | rfl | rfl | rfl <;> simp only [tpL, lsL, lcL, lnL, lDs_app, bl, non] <;> omega
  simp only [c_l_bad_tempos_6, sRet_eq, eOp_eq, eVar_s, eVar_0, bind_ok, ws_sb, wp_bind]
  obtain ⟨d, S1, e1, ds, p2, rfl, rfl, hb, hl, h5⟩ := (wp_bents (T := T) (ns := ns) (x2 := some (.tup (ss.map sd))) (x3 := some (fq R)) (x4 := some fl) (x5 := none) (x6 := some (.lst l4)) (x7 := none) (Q := fun d S' => ∃ ds p', d = .lst ds ∧ S' = Pn ns p' T ∧ (∀ d ∈ ds, Ay 41 60 10 d ∧ lD d ≤ 22350) ∧ ds.length = 4 ∧ Pk p' (k + 104)) (E := fun _ _ => False) h hk ht fun ds p' a b c => ⟨ds, p', rfl, rfl, a, b, c⟩).get
  have fil := lc_filter (a := iSeq (eLc (iRng (aCons (eC (.int 4)) aNil)) (.nm 5) cYes (eCall F_l_bent (aCons (eVar 0) (aCons (eVar 1) aNil))) [5])) (it := .vlst (ds.map id)) (t := .nm 7) (c := tTru (eOp oIs (eCall F_is_tempo (aCons (eVar 7) aNil)) (eC (.bl false)))) (e := eVar 7) (own := [7]) (ρ := [some (.ob 0), some (td ss R), some (.tup (ss.map sd)), some (fq R), some fl, none, some (.lst l4), none]) (S := Pn ns p T) (S1 := Pn ns p2 T) (qs := ds) (g := id) (f := id) (k := fun d => !gd (Tm d)) (by simp only [iSeq_eq, e1, bind_ok, List.map_id]) (.inr rfl) (by omega) (fun d hd => ((hb d hd).1.pl40 (by decide)).le (by decide)) fun d hd S2 => by
    have tm := fun S => is_tempo_any (hb d hd).1 (by decide) S
    refine ⟨_, put_nm _ _ _ _, ?_⟩
    simp only [wipeD, List.foldl, List.set, tTru_eq, eOp_eq, eCall_eq, aCons_eq, aNil_eq, eC_eq, eVar_s, eVar_0, bind_ok, tm, oIs_bl, isBl_bl, truD_bl, id]
    exact ⟨by cases gd (Tm d) <;> rfl, fun _ => trivial⟩
  rw [fil]
  have za : szOk (l4.length + (ds.filter fun d => !gd (Tm d)).length) = true := gd_of (by have := List.length_filter_le (fun d => !gd (Tm d)) ds; omega)
  simp only [wp_ok, List.map_id, oAdd_lst, za, if_true, ws_rt]
  have bd : ∀ d ∈ l4 ++ ds.filter (fun d => !gd (Tm d)), Bad d := fun d hd => by
    rcases List.mem_append.mp hd with hd | hd
    · exact b4 d hd
    · obtain ⟨m1, m2⟩ := List.mem_filter.mp hd
      refine ⟨(hb d m1).1, fun t => ?_⟩
      rw [gd_of t] at m2
      cases m2
  exact ⟨Pn ns p2 T, [], .lst _, by simp, kp_pen, frz_pl 40 _ (pl_lst ((pls_iff (k := 38)).mpr fun d hd => (bd d hd).pl.le (by decide))), q _ p2 bd (fun d hd => by
    rcases List.mem_append.mp hd with hd | hd
    · exact l4b d hd
    · exact (hb d (List.mem_filter.mp hd).1).2) (by rw [List.length_append]; omega) (by have := List.length_filter_le (fun d => !gd (Tm d)) ds; rw [List.length_append]; omega) h5⟩
end
end
end Fx
set_option Elab.async false
set_option linter.all false
set_option maxRecDepth 100000
/-! data that the laws' own look finds the same as itself: one level for each tuple within a tuple -/
namespace Fx
open PySem PySem.Spec PyProof.Rows L2 DV
def Se : Nat → D → Prop
  | 0, _ => False
  | k + 1, .tup xs => xs.length ≤ 1000000 ∧ ∀ d ∈ xs, Se k d
  | k + 1, .lst xs => xs.length ≤ 1000000 ∧ ∀ d ∈ xs, Se k d
  | _ + 1, .non => True
  | _ + 1, .bl _ => True
  | _ + 1, .int _ => True
  | _ + 1, .str s => PyData.strOk s = true
  | _ + 1, _ => False
theorem Se.up : ∀ {k : Nat} {d : D}, Se k d → Se (k + 1) d
  | 0, _, h => by simp [Se] at h
  | k + 1, .tup xs, h => by simp only [Se] at h ⊢; exact ⟨h.1, fun d hd => (h.2 d hd).up⟩
  | k + 1, .lst xs, h => by simp only [Se] at h ⊢; exact ⟨h.1, fun d hd => (h.2 d hd).up⟩
  | _ + 1, .non, _ => by simp [Se]
  | _ + 1, .bl _, _ => by simp [Se]
  | _ + 1, .int _, _ => by simp [Se]
  | _ + 1, .str _, h => by simp only [Se] at h ⊢; exact h
  | _ + 1, .ob _, h => by simp [Se] at h
  | _ + 1, .dct _, h => by simp [Se] at h
  | _ + 1, .dtt _, h => by simp [Se] at h
  | _ + 1, .ins _ _ _, h => by simp [Se] at h
  | _ + 1, .exc _, h => by simp [Se] at h
  | _ + 1, .ro _, h => by simp [Se] at h
  | _ + 1, .gl _, h => by simp [Se] at h
theorem Se.le {d : D} {k j : Nat} (h : Se k d) (hj : k ≤ j) : Se j d := by
  induction hj with
  | refl => exact h
  | step _ ih => exact ih.up
theorem se_fq {q : Rat} {k : Nat} : Se (k + 2) (fq q) := by
  simp only [fq, Se, List.mem_cons, List.not_mem_nil, or_false]
  exact ⟨by simp, fun d hd => by rcases hd with rfl | rfl <;> simp [Se]⟩
theorem same_okD : ∀ (k : Nat) {d : D}, Se k d → ∀ S, R_l_same k [d, d] S = .ok (.bl true) S
  | 0, d, h, S => by simp [Se] at h
  | k + 1, d, h, S => by
    have ih := fun (x : D) (hx : Se k x) S => same_okD k hx S
    have each : ∀ xs : List D, (∀ d ∈ xs, Se k d) → ∀ i, i < xs.length → Se k (xs[i]?.getD .non) := by
      intro xs hs i hi
      rw [List.getElem?_eq_getElem hi]
      exact hs _ (List.getElem_mem hi)
    show runF 4 2 (b_l_same (R_l_same k)) [d, d] S = _
    refine run_eq0 ?_ (by simp [Pl])
    cases d with
    | non => simp [b_l_same, sSeq, c_l_same_0, c_l_same_1]
    | bl b => cases b <;> simp [b_l_same, sSeq, c_l_same_0, c_l_same_1, c_l_same_2, c_l_same_3, c_l_same_4]
    | int i => simp [b_l_same, sSeq, c_l_same_0, c_l_same_1, c_l_same_2, c_l_same_3, c_l_same_4]
    | str s => 
      simp only [Se] at h
      simp [b_l_same, sSeq, c_l_same_0, c_l_same_1, c_l_same_2, c_l_same_3, c_l_same_4, oEq_str h]
    | tup xs =>
      simp only [Se] at h
      have lc := fun S => lc_at (a := iZip (aCons (eVar 0) (aCons (eVar 1) aNil))) (t := .tp [(.nm 2), (.nm 3)]) (e := eCall (R_l_same k) (aCons (eVar 2) (aCons (eVar 3) aNil))) (own := [2, 3]) (ρ := [some (.tup xs), some (.tup xs), none, none]) (S := S) (S1 := S) (it := .zipT xs xs) (n := xs.length) (xs := fun i => .tup [xs[i]?.getD .non, xs[i]?.getD .non]) (f := fun _ => .bl true) (by simp) rfl (fun E i hi => isZipT xs xs _ rfl i hi) h.1 (fun i hi => by simp [Pl]) (fun i hi S2 => by
        refine ⟨[some (.tup xs), some (.tup xs), some (xs[i]?.getD .non), some (xs[i]?.getD .non)], by simp [wipeD], ?_⟩
        have := ih _ (each xs h.2 i hi) S2
        simp only [eCall_eq, aCons_eq, aNil_eq, eVar_s, eVar_0, bind_ok, this])
      unfold b_l_same
      refine seq_rt ?_ _
      have := lc S
      simp [c_l_same_0, sSeq, this, all_bl]
    | lst xs =>
      simp only [Se] at h
      have lc := fun S => lc_at (a := iZip (aCons (eVar 0) (aCons (eVar 1) aNil))) (t := .tp [(.nm 2), (.nm 3)]) (e := eCall (R_l_same k) (aCons (eVar 2) (aCons (eVar 3) aNil))) (own := [2, 3]) (ρ := [some (.lst xs), some (.lst xs), none, none]) (S := S) (S1 := S) (it := .zipV xs xs) (n := xs.length) (xs := fun i => .tup [xs[i]?.getD .non, xs[i]?.getD .non]) (f := fun _ => .bl true) (by simp) rfl (fun E i hi => isZipV xs xs _ rfl i hi) h.1 (fun i hi => by simp [Pl]) (fun i hi S2 => by
        refine ⟨[some (.lst xs), some (.lst xs), some (xs[i]?.getD .non), some (xs[i]?.getD .non)], by simp [wipeD], ?_⟩
        have := ih _ (each xs h.2 i hi) S2
        simp only [eCall_eq, aCons_eq, aNil_eq, eVar_s, eVar_0, bind_ok, this])
      unfold b_l_same
      refine seq_rt ?_ _
      have := lc S
      simp [c_l_same_0, sSeq, this, all_bl]
    | _ => simp [Se] at h
end Fx
set_option Elab.async false
set_option linter.all false
set_option maxRecDepth 100000
/-! what most laws begin with: a pen, a range, what is the same as itself -/
namespace Fx
open PySem L2 DV
theorem pen_ok (ns : List Int) : ∃ ms, F_l_pen [.ro ns] [] = .ok (.ob 0) (Pn ms (0, 0) []) := by
  have z3 : szOk (0 + 1 + 1 + 1) = true := gd_of (by decide)
  refine ⟨cutD ns none (some 63), ?_⟩
  refine eq_of_wp (wp_runK ?_)
  show Ws (b_l_pen [some (.ro ns)] []) _
  simp only [b_l_pen, c_l_pen_0, sRet_eq, eLstS_eq, aCons_eq, aNil_eq, eB_eq, eRo, eVar_0, pNo_eq, pAt_eq, eC_eq, bind_ok, cList_lst, List.length_cons, List.length_nil, z3, if_true, sb_ok, ws_rt]
  exact ⟨trivial, rfl⟩
theorem iRng_ok {n : Nat} {i : Int} (hi : i = n) (hn : n ≤ 1000) (ρ : Lc) (S : Sto) : iRng (aCons (eC (.int i)) aNil) ρ S = .ok (.rng 0 n) S := by
  subst hi
  have g : gd (-(2 ^ 62) ≤ (n : Int) ∧ (n : Int) < 2 ^ 62) = true := gd_of (by omega)
  simp only [iRng_eq, aCons_eq, aNil_eq, eC_eq, bind_ok, g, if_true]
  rfl
theorem se_tup {xs : List D} {k : Nat} (hl : xs.length ≤ 1000000) (h : ∀ d ∈ xs, Se k d) : Se (k + 1) (.tup xs) := ⟨hl, h⟩
theorem se_map {α : Type} {f : α → D} {xs : List α} {k : Nat} (hl : xs.length ≤ 1000000) (h : ∀ x ∈ xs, Se k (f x)) : Se (k + 1) (.tup (xs.map f)) := ⟨by rw [List.length_map]; exact hl, fun d hd => by obtain ⟨x, hx, rfl⟩ := List.mem_map.mp hd; exact h x hx⟩
theorem se_int {i : Int} {k : Nat} : Se (k + 1) (.int i) := trivial
theorem se_str {s : Str} {k : Nat} (h : PyData.strOk s = true) : Se (k + 1) (.str s) := h
end Fx
set_option Elab.async false
set_option linter.all false
set_option maxRecDepth 100000
set_option exponentiation.threshold 20000
namespace Lk03
open PySem L2 DV Fx
section
variable {ns : List Int} {p : Int × Int} {T : Sto} {k : Nat} {Q : D → Sto → Prop} {E : Str → Sto → Prop} {N : Pq} {n w j m : Nat} {d : D}
theorem whole_any (h : Ay n w k d) (S : Sto) : F_l_whole [d] S = .ok (.bl (isWh d)) S := by
  unfold F_l_whole b_l_whole
  refine run_eq0 ?_ (by simp [Pl])
  match k, h with
  | k + 1, h =>
    cases d with
    | bl b => simp [c_l_whole_0, isWh]
    | tup xs => simp [c_l_whole_0, isWh]
    | lst xs => simp [c_l_whole_0, isWh]
    | dct kvs => simp [c_l_whole_0, isWh]
    | non => simp [c_l_whole_0, isWh]
    | int i => simp [c_l_whole_0, isWh]
    | str s => simp [c_l_whole_0, isWh]
    | _ => exact h.elim
theorem isWh_ex (h : isWh d = true) : ∃ i, d = .int i := by
  cases d <;> first | exact ⟨_, rfl⟩ | cases h
theorem pair_fr {a b : Int} (hb : 0 < b) : gd (fq (Rat.divInt a b) = .tup [.int a, .int b]) = isFr (.tup [.int a, .int b]) := by
  by_cases hf : isFr (.tup [.int a, .int b]) = true
  · rw [hf]
    obtain ⟨q, hq⟩ := isFr_ex hf
    have e := hq
    simp only [fq, D.tup.injEq, List.cons.injEq, D.int.injEq, and_true] at e
    refine gd_of ?_
    rw [hq, e.1, e.2]
    have : Rat.divInt q.num (q.den : Int) = q := by rw [Rat.divInt_ofNat, Rat.mkRat_self]
    rw [this]
  · have hf' : isFr (.tup [.int a, .int b]) = false := by simpa using hf
    rw [hf']
    exact gd_no fun e => hf (by rw [← e]; exact isFr_fq _)
theorem due_any (h : Ay n w k d) (hn : n ≤ 6000) (S : Sto) : F_l_due [d] S = .ok (.bl (isFr d)) S := by
  unfold F_l_due b_l_due
  refine run_eq0 ?_ (by simp [Pl])
  show sSeq c_l_due_0 c_l_due_1 [some d] S = _
  match k, h with
  | k + 1, h =>
    cases d with
    | tup xs =>
      by_cases e : xs.length = 2
      · match xs, e, h with
        | [x, y], _, h =>
          have hx := h.2 x (by simp)
          have hy := h.2 y (by simp)
          have wx := fun S => whole_any hx S
          have wy := fun S => whole_any hy S
          have a0 : ∀ S, oIx (.tup [x, y]) (.int 0) S = .ok x S := fun S => rfl
          have a1 : ∀ S, oIx (.tup [x, y]) (.int 1) S = .ok y S := fun S => rfl
          have ln : ∀ S, cLen [.tup [x, y]] S = .ok (.int 2) S := fun S => rfl
          by_cases hw : isWh x = true ∧ isWh y = true
          · obtain ⟨a, rfl⟩ := isWh_ex hw.1
            obtain ⟨b, rfl⟩ := isWh_ex hw.2
            refine (seq_nx (ρ' := [some (.tup [.int a, .int b])]) (S' := S) (by
              simp only [c_l_due_0, sIf_eq, bOr_eq, bNot_eq, tTru_eq, eIs_eq, eOp_eq, eB_eq, eCall_eq, aCons_eq, aNil_eq, eC_eq, eVar_0, bind_ok, isD_eq, tyD_tup, kb_tuple_tuple, truD_bl, ln, a0, a1, wx, wy, hw.1, hw.2, oNe_int2, bne_self_eq_false, Bool.not_true, Bool.false_eq_true, if_false, sb_ok, sNil_eq]) _).trans ?_
            simp only [c_l_due_1, sRet_eq, eAnd_eq, eOp_eq, eCall_eq, aCons_eq, aNil_eq, eC_eq, eVar_0, bind_ok, a0, a1, oGt_int, truD_bl]
            by_cases hb : 0 < b
            · have ha2 : a.natAbs < 2 ^ n := by
                match k, hx with
                | k + 1, hx => exact hx
              have hb2 : b.natAbs < 2 ^ n := by
                match k, hy with
                | k + 1, hy => exact hy
              have low := fun S => l_low_ok (a := a) (b := b) S (by omega) (pow_mono ha2 (by omega)) (pow_mono hb2 (by omega))
              have c1 : Cn 40 (fq (Rat.divInt a b)) := cn_fq
              have c2 : Cn 40 (.tup [.int a, .int b]) := by simp [Cn, Cns]
              have eq := fun S : Sto => (oEq_cn (S := S) c1 c2)
              simp only [decide_eq_true hb, low, bind_ok, eq, pair_fr hb, sb_ok]
            · have hf : isFr (.tup [.int a, .int b]) = false := by
                show decide _ = false
                exact decide_eq_false (by omega)
              simp only [decide_eq_false hb, hf, sb_ok]
          · have hf : isFr (.tup [x, y]) = false := by
              cases x <;> first | rfl | skip
              cases y <;> first | rfl | skip
              exact absurd ⟨rfl, rfl⟩ hw
            rw [hf]
            refine seq_rt ?_ _
            by_cases hx1 : isWh x = true
            · have hy1 : isWh y = false := by
                cases z : isWh y with
                | true => exact absurd ⟨hx1, z⟩ hw
                | false => rfl
              simp only [c_l_due_0, sIf_eq, bOr_eq, bNot_eq, tTru_eq, eIs_eq, eOp_eq, eB_eq, eCall_eq, aCons_eq, aNil_eq, eC_eq, eVar_0, bind_ok, isD_eq, tyD_tup, kb_tuple_tuple, truD_bl, ln, a0, a1, wx, wy, hx1, hy1, oNe_int2, bne_self_eq_false, Bool.not_true, Bool.not_false, Bool.false_eq_true, if_false, if_true, sb_ok, sRet_eq]
            · have hx2 : isWh x = false := by simpa using hx1
              simp only [c_l_due_0, sIf_eq, bOr_eq, bNot_eq, tTru_eq, eIs_eq, eOp_eq, eB_eq, eCall_eq, aCons_eq, aNil_eq, eC_eq, eVar_0, bind_ok, isD_eq, tyD_tup, kb_tuple_tuple, truD_bl, ln, a0, a1, wx, wy, hx2, oNe_int2, bne_self_eq_false, Bool.not_true, Bool.not_false, Bool.false_eq_true, if_false, if_true, sb_ok, sRet_eq]
      · have nb : (((xs.length : Nat) : Int) != 2) = true := by
          have : ¬ ((xs.length : Nat) : Int) = 2 := by omega
          simpa using this
        have hf : isFr (.tup xs) = false := by
          unfold isFr
          split
          · rename_i e2; cases e2; simp at e
          · rfl
        rw [hf]
        refine seq_rt ?_ _
        simp only [c_l_due_0, sIf_eq, bOr_eq, bNot_eq, tTru_eq, eIs_eq, eOp_eq, eB_eq, eCall_eq, aCons_eq, aNil_eq, eC_eq, eVar_0, bind_ok, isD_eq, tyD_tup, kb_tuple_tuple, truD_bl, cLen_tup, nb, oNe_int2, Bool.not_true, Bool.false_eq_true, if_false, if_true, sb_ok, sRet_eq]
    | lst xs => exact seq_rt (by simp [c_l_due_0, isFr]) _
    | dct kvs => exact seq_rt (by simp [c_l_due_0, isFr]) _
    | non => exact seq_rt (by simp [c_l_due_0, isFr]) _
    | bl b => exact seq_rt (by simp [c_l_due_0, isFr]) _
    | int i => exact seq_rt (by simp [c_l_due_0, isFr]) _
    | str s => exact seq_rt (by simp [c_l_due_0, isFr]) _
    | _ => exact h.elim
/-- what is looked at: its repr, and that both judges say the same of it -/
structure Good (d : D) : Prop where
  rep : ∃ Z, PyData.strOk Z = true ∧ ∀ S, cReprQ [d] S = .ok (.str Z) S
  say : ∃ c, (∀ S, F_is_fraction [d] S = .ok (.bl c) S) ∧ ∀ S, F_l_due [d] S = .ok (.bl c) S
  pl : Pl 36 d
theorem good_ay (h : Ay 230 60 4 d) (hl : lD d ≤ 1000000) : Good d :=
  ⟨⟨_, repr_strQ ((h.rv (by decide)).le (by decide)), fun S => repr_okQ ((h.rv (by decide)).le (by decide)) hl S⟩, ⟨isFr d, fun S => is_fraction_any h S, fun S => due_any h (by decide) S⟩, h.pl40 (by decide)⟩
/-- of these neither is a fraction, whatever lies in it -/
theorem none_tup1 (x : D) (S : Sto) : F_is_fraction [.tup [x]] S = .ok (.bl false) S ∧ F_l_due [.tup [x]] S = .ok (.bl false) S := by
  have nb : (((1 : Nat) : Int) != 2) = true := by decide
  constructor
  · unfold F_is_fraction b_is_fraction
    exact run_eq0 (by simp [c_is_fraction_0, sSeq]) (by simp [Pl])
  · unfold F_l_due b_l_due
    refine run_eq0 ?_ (by simp [Pl])
    exact seq_rt (by simp [c_l_due_0]) _
theorem none_lst (xs : List D) (S : Sto) : F_is_fraction [.lst xs] S = .ok (.bl false) S ∧ F_l_due [.lst xs] S = .ok (.bl false) S := by
  constructor
  · unfold F_is_fraction b_is_fraction
    exact run_eq0 (by simp [c_is_fraction_0, sSeq]) (by simp [Pl])
  · unfold F_l_due b_l_due
    refine run_eq0 ?_ (by simp [Pl])
    exact seq_rt (by simp [c_l_due_0]) _
theorem none_dct (kvs : List (Key × D)) (S : Sto) : F_is_fraction [.dct kvs] S = .ok (.bl false) S ∧ F_l_due [.dct kvs] S = .ok (.bl false) S := by
  constructor
  · unfold F_is_fraction b_is_fraction
    exact run_eq0 (by simp [c_is_fraction_0, sSeq]) (by simp [Pl])
  · unfold F_l_due b_l_due
    refine run_eq0 ?_ (by simp [Pl])
    exact seq_rt (by simp [c_l_due_0]) _
/-- a thing that is shown -/
def Shw (j L : Nat) (d : D) : Prop := ∃ e, (∀ m, j ≤ m → ∀ S, pyOfD m S d = some e) ∧ e.showable = true ∧ e.depth ≤ j ∧ e.shown.length ≤ L ∧ Sok' e.shown
theorem Shw.rep {L : Nat} (h : Shw j L d) (hj : j ≤ 40) (hL : L ≤ 1000000) : ∃ Z, PyData.strOk Z = true ∧ ∀ S, cReprQ [d] S = .ok (.str Z) S := by
  obtain ⟨e, h1, h2, h3, h4, h5⟩ := h
  refine ⟨e.shown, sok_iff.mpr h5, fun S => ?_⟩
  have g : reprOkQ e = true := gd_of ⟨h2, by omega, by omega⟩
  simp only [cReprQ, h1 40 hj S, g, if_true]
theorem shw_tup {L : Nat} {x : D} (h : Shw j L x) : Shw (j + 1) (L + 5) (.tup [x]) := by
  obtain ⟨e, h1, h2, h3, h4, h5⟩ := h
  refine ⟨.tuple [e], fun m hm S => ?_, by simp [PyData.showable, PyData.showableAll, h2], by simp only [PyData.depth, PyData.depthAll]; omega, ?_, ?_⟩
  · match m, hm with
    | m + 1, hm => simp only [pyOfD, pyOf.pyAll, h1 m (by omega) S, Option.map_some]
  · rw [PyData.shown]
    have := tupleText_len_le (PyData.shownAll [e])
    simp only [PyData.shownAll, List.map_cons, List.map_nil, List.sum_cons, List.sum_nil, List.length_cons, List.length_nil] at this
    simp only [PyData.shownAll]
    omega
  · rw [PyData.shown_tuple]
    refine sok_app (sok_app (sok_of "(") (sok_join (sok_of ", ") _ fun t ht => ?_)) ?_
    · simp only [PyData.shownAll, List.mem_singleton] at ht
      rw [ht]; exact h5
    · split <;> exact sok_of _
theorem shw_lst {L : Nat} {x : D} (h : Shw j L x) : Shw (j + 1) (L + 5) (.lst [x]) := by
  obtain ⟨e, h1, h2, h3, h4, h5⟩ := h
  refine ⟨.list [e], fun m hm S => ?_, by simp [PyData.showable, PyData.showableAll, h2], by simp only [PyData.depth, PyData.depthAll]; omega, ?_, ?_⟩
  · match m, hm with
    | m + 1, hm => simp only [pyOfD, pyOf.pyAll, h1 m (by omega) S, Option.map_some]
  · rw [PyData.shown]
    have := listText_len_le (PyData.shownAll [e])
    simp only [PyData.shownAll, List.map_cons, List.map_nil, List.sum_cons, List.sum_nil, List.length_cons, List.length_nil] at this
    simp only [PyData.shownAll]
    omega
  · rw [PyData.shown_list]
    refine sok_app (sok_app (sok_of "[") (sok_join (sok_of ", ") _ fun t ht => ?_)) (sok_of "]")
    simp only [PyData.shownAll, List.mem_singleton] at ht
    rw [ht]; exact h5
theorem shw_dct {L K : Nat} {x : D} {i : Int} (h : Shw j L x) (hi : i.natAbs.log2 < 1920) (hK : lD (.int i) ≤ K) (hj : 1 ≤ j) : Shw (j + 1) (L + K + 4) (.dct [(.inl i, x)]) := by
  obtain ⟨e, h1, h2, h3, h4, h5⟩ := h
  have hK' : (PyData.shown (.int i)).length ≤ K := by simpa only [lD] using hK
  have sh : PyData.shown (.dict [(.int i, e)]) = "{" ++ (PyData.shown (.int i) ++ ": " ++ PyData.shown e) ++ "}" := by
    have e1 : PyData.shownKv [(PyData.int i, e)] = [PyData.shown (.int i) ++ ": " ++ PyData.shown e] := by simp only [PyData.shownKv]
    have e0 : PyData.shown (.dict [(.int i, e)]) = dictText (PyData.shownKv [(PyData.int i, e)]) := by
      conv => lhs; unfold PyData.shown
    rw [e0, e1]
    rfl
  refine ⟨.dict [(.int i, e)], fun m hm S => ?_, ?_, by simp only [PyData.depth, PyData.depthKv]; omega, ?_, ?_⟩
  · match m, hm with
    | m + 1, hm =>
      simp only [pyOfD, List.map_cons, List.map_nil, pyOf.pyAll, h1 m (by omega) S, Option.map_some]
      rfl
  · simp [PyData.showable, PyData.showableKv, h2, hi]
  · rw [sh, strLen_append, strLen_append, strLen_append, strLen_append]
    have a1 : ("{" : Str).length = 1 := rfl
    have a2 : ("}" : Str).length = 1 := rfl
    have a3 : (": " : Str).length = 2 := rfl
    omega
  · rw [sh]
    refine sok_app (sok_app (sok_of "{") (sok_app (sok_app ?_ (sok_of ": ")) h5)) (sok_of "}")
    simp only [PyData.shown]
    exact sok_of _
theorem shw_int {K : Nat} {i : Int} (hi : i.natAbs.log2 < 1920) (hK : lD (.int i) ≤ K) : Shw 1 K (.int i) := by
  refine ⟨.int i, fun m hm S => ?_, by simpa [PyData.showable] using hi, by simp [PyData.depth], by simpa only [lD] using hK, by simp only [PyData.shown]; exact sok_of _⟩
  match m, hm with
  | m + 1, hm => simp only [pyOfD]
theorem shw_11 : Shw 3 10 (.tup [.int 1, .int 1]) := by
  refine ⟨.tuple [.int 1, .int 1], fun m hm S => ?_, by simp [PyData.showable, PyData.showableAll]; decide, by simp [PyData.depth, PyData.depthAll], by decide +kernel, ?_⟩
  · match m, hm with
    | m + 2, hm => simp only [pyOfD, pyOf.pyAll, Option.map_some]
  · exact sok_of "(1, 1)"
/-- what is laid deep -/
structure Deep (i : Nat) (d : D) : Prop where
  sh : Shw (i + 3) (10 + 10 * i) d
  top : i = 0 ∧ d = .tup [.int 1, .int 1] ∨ (∃ x, d = .tup [x]) ∨ (∃ xs, d = .lst xs) ∨ ∃ kvs, d = .dct kvs
  pl : Pl (2 * i + 4) d
theorem Shw.le {L M : Nat} (h : Shw j L d) (hL : L ≤ M) : Shw j M d := let ⟨e, h1, h2, h3, h4, h5⟩ := h; ⟨e, h1, h2, h3, by omega, h5⟩
theorem deep0 : Deep 0 (.tup [.int 1, .int 1]) := ⟨shw_11, .inl ⟨rfl, rfl⟩, (show Cn 4 (.tup [.int 1, .int 1]) by simp [Cn, Cns]).pl⟩
theorem deep_tup {i : Nat} {x : D} (h : Deep i x) : Deep (i + 1) (.tup [x]) := ⟨(shw_tup h.sh).le (by omega), .inr (.inl ⟨_, rfl⟩), by
  rw [show 2 * (i + 1) + 4 = (2 * i + 4 + 1) + 1 by omega]
  exact pl_tup (pls_iff.mpr fun d hd => by rw [List.mem_singleton.mp hd]; exact h.pl)⟩
theorem deep_lst {i : Nat} {x : D} (h : Deep i x) : Deep (i + 1) (.lst [x]) := ⟨(shw_lst h.sh).le (by omega), .inr (.inr (.inl ⟨_, rfl⟩)), by
  rw [show 2 * (i + 1) + 4 = (2 * i + 4 + 1) + 1 by omega]
  exact pl_lst (pls_iff.mpr fun d hd => by rw [List.mem_singleton.mp hd]; exact h.pl)⟩
theorem deep_dct {i : Nat} {x : D} (h : Deep i x) (hi : i ≤ 9) : Deep (i + 1) (.dct [(.inl (i : Nat), x)]) := by
  have l1 := lD_int (i := ((i : Nat) : Int)) (k := 1) (by decide) (by omega)
  refine ⟨(shw_dct (K := 2) h.sh ?_ l1 (by omega)).le (by omega), .inr (.inr (.inr ⟨_, rfl⟩)), ?_⟩
  · by_cases h0 : ((i : Nat) : Int).natAbs = 0
    · rw [h0]; decide
    · exact (Nat.log2_lt h0).mpr (pow_mono (n := 10) (by omega) (by decide))
  · rw [show 2 * (i + 1) + 4 = (2 * i + 4 + 1) + 1 by omega]
    simp only [Pl]
    exact pls_iff.mpr fun d hd => by
      simp only [List.map_cons, List.map_nil, List.mem_singleton] at hd
      rw [hd]; exact h.pl
theorem Deep.good {i : Nat} (h : Deep i d) (hi : i ≤ 9) : Good d := by
  refine ⟨h.sh.rep (by omega) (by omega), ?_, h.pl.le (by omega)⟩
  rcases h.top with ⟨_, rfl⟩ | ⟨x, rfl⟩ | ⟨xs, rfl⟩ | ⟨kvs, rfl⟩
  · have ha : Ay 230 60 4 (.tup [.int 1, .int 1]) := ay2 (by decide) (ay_int (by decide)) (ay_int (by decide))
    exact ⟨_, fun S => is_fraction_any ha S, fun S => due_any ha (by decide) S⟩
  · exact ⟨false, fun S => (none_tup1 x S).1, fun S => (none_tup1 x S).2⟩
  · exact ⟨false, fun S => (none_lst xs S).1, fun S => (none_lst xs S).2⟩
  · exact ⟨false, fun S => (none_dct kvs S).1, fun S => (none_dct kvs S).2⟩
theorem good_dct {a b : Int} (ha : a.natAbs < 10 ^ 63) (hb : b.natAbs < 10 ^ 63) : Good (.dct [(.inl a, .int b)]) := by
  have la := lD_int (k := 63) (by decide) ha
  have lb := lD_int (k := 63) (by decide) hb
  have p63 : (10 : Nat) ^ 63 < 2 ^ 230 := by decide
  have lg : ∀ i : Int, i.natAbs < 10 ^ 63 → i.natAbs.log2 < 1920 := fun i hi => by
    by_cases h0 : i.natAbs = 0
    · rw [h0]; decide
    · exact (Nat.log2_lt h0).mpr (pow_mono (n := 230) (by omega) (by decide))
  refine ⟨(shw_dct (shw_int (lg b hb) lb) (lg a ha) la (by decide)).rep (by decide) (by decide), ⟨false, fun S => (none_dct _ S).1, fun S => (none_dct _ S).2⟩, ?_⟩
  rw [show 36 = 35 + 1 by rfl]
  simp only [Pl]
  exact (pls_iff (k := 34)).mpr fun d hd => by
    simp only [List.map_cons, List.map_nil, List.mem_singleton] at hd
    rw [hd]; simp only [Pl]
end
end Lk03
set_option Elab.async false
set_option linter.all false
set_option maxRecDepth 100000
set_option exponentiation.threshold 20000
namespace Lk03
open PySem L2 DV Fx
section
variable {ns ms : List Int} {p : Int × Int} {T : Sto} {k : Nat} {Q : D → Sto → Prop} {E : Str → Sto → Prop} {N : Pq} {t b y : Int}
abbrev Bd (i : Int) : Prop := i.natAbs < 10 ^ 62
theorem bd_ay {i : Int} (h : Bd i) : Ay 230 60 (k + 1) (.int i) := ay_int (by
  have e : (10 : Nat) ^ 62 < 2 ^ 230 := by decide
  have h' : i.natAbs < 10 ^ 62 := h
  omega)
theorem bd_ld {i : Int} (h : Bd i) : lD (.int i) ≤ 63 := lD_int (k := 62) (by decide) h
def A0 (t b y : Int) : List D := [.tup [.int t, .int b], .tup [.int (t * y), .int (b * y)], .tup [.int t, .int (0 - b)], .tup [.int t, .int 0], .tup [.int 0, .int b], .tup [.int 0, .int 1], .tup [.int 0, .int y], .tup [.int 0, .int 0], .tup [.int y, .int y]]
def A1 (t b : Int) : List D := [.tup [.int t, .int b, .int 1], .tup [.int t], .lst [.int t, .int b], .int t, .tup [.tup [.int t, .int b]], .tup [.tup [.int t, .int b], .int 1], .tup [.tup [.int t, .int b], .tup [.int t, .int b]], .tup [.bl true, .int 1], .tup [.int 1, .bl true], .tup [.bl false, .int 1]]
def A2 (t b : Int) : List D := [.tup [.str (toString t), .int b], .tup [.int t, .str (toString b)], .tup [.non, .int b], .tup [.int t, .non], .tup [.int t, .tup [.int b]]]
def A3 (t b : Int) : List D := [.tup [.lst [.int t], .int b]]
def A4 (t b : Int) : List D := [.tup [.int (t + b), .int b], .tup [.int b, .int 1], .tup [.int 1, .int b], .tup [.int (0 - t), .int b], .tup [.int t, .int 1], .tup [.int t, .int (b + 1)]]
def A5 (t b : Int) (dp : D) : List D := [dp, .non, .bl true, .str "", .str "1/2", .dct [], .dct [(.inl t, .int b)], .lst [], .tup []]
theorem all_good {dp : D} (ht : t.natAbs < 2 ^ 200) (hb : b.natAbs < 2 ^ 200) (hy : y.natAbs ≤ 10) (hd : Good dp) : ∀ d ∈ A0 t b y ++ A1 t b ++ A2 t b ++ A3 t b ++ A4 t b ++ A5 t b dp, Good d := fun d hm => by
  have e2 : 10 * (2 : Nat) ^ 200 < 10 ^ 62 := by decide
  have bt : Bd t := by show _ < _; omega
  have bb : Bd b := by show _ < _; omega
  have by' : Bd y := by show _ < _; omega
  have b0 : Bd 0 := by decide
  have b1 : Bd 1 := by decide
  have nb : Bd (0 - b) := by show _ < _; omega
  have nt : Bd (0 - t) := by show _ < _; omega
  have tb : Bd (t + b) := by show _ < _; omega
  have bp : Bd (b + 1) := by show _ < _; omega
  have ty : Bd (t * y) := by
    show (t * y).natAbs < _
    rw [Int.natAbs_mul]
    have : t.natAbs * y.natAbs ≤ 2 ^ 200 * 10 := Nat.mul_le_mul (by omega) hy
    omega
  have byy : Bd (b * y) := by
    show (b * y).natAbs < _
    rw [Int.natAbs_mul]
    have : b.natAbs * y.natAbs ≤ 2 ^ 200 * 10 := Nat.mul_le_mul (by omega) hy
    omega
  have p2 : ∀ {i j : Int}, Bd i → Bd j → Good (.tup [.int i, .int j]) := fun {i j} hi hj => good_ay (ay2 (k := 3) (by decide) (bd_ay hi) (bd_ay hj)) (by
    have := bd_ld hi
    have := bd_ld hj
    simp only [tpL, lcL, lnL]; omega)
  have ltt := bd_ld bt
  have ltb := bd_ld bb
  have l1 := bd_ld b1
  have bl : ∀ c, lD (.bl c) = 5 := fun c => by simp only [lD]
  have non : lD .non = 5 := by simp only [lD]
  have txt : ∀ {i : Int}, Bd i → Ay 230 60 3 (.str (toString i)) ∧ lD (.str (toString i)) ≤ 640 := fun {i} hi => by
    have := int_text_length_le10 (a := i) (k := 62) (by decide) hi
    have e : (Str.ofString (toString i)).cps.size = (toString i).length := PySem.ofString_length _
    refine ⟨⟨?_, sok_iff.mpr (sok_of _)⟩, by simp only [lD, e]; omega⟩
    show (Str.ofString (toString i)).cps.size ≤ 1000
    omega
  simp only [List.mem_append] at hm
  rcases hm with ((((hm | hm) | hm) | hm) | hm) | hm
  · simp only [A0, List.mem_cons, List.not_mem_nil, or_false] at hm
    rcases hm with rfl | rfl | rfl | rfl | rfl | rfl | rfl | rfl | rfl
    · exact p2 bt bb
    · exact p2 ty byy
    · exact p2 bt nb
    · exact p2 bt b0
    · exact p2 b0 bb
    · exact p2 b0 b1
    · exact p2 b0 by'
    · exact p2 b0 b0
    · exact p2 by' by'
  · simp only [A1, List.mem_cons, List.not_mem_nil, or_false] at hm
    rcases hm with rfl | rfl | rfl | rfl | rfl | rfl | rfl | rfl | rfl | rfl
    · exact good_ay (ay3 (k := 3) (by decide) (bd_ay bt) (bd_ay bb) (bd_ay b1)) (by simp only [tpL, lcL, lnL]; omega)
    · exact good_ay (ay1 (k := 3) (by decide) (bd_ay bt)) (by simp only [tpL, lcL, lnL]; omega)
    · exact good_ay (ayl2 (k := 3) (by decide) (bd_ay bt) (bd_ay bb)) (by simp only [lsL, lcL, lnL]; omega)
    · exact good_ay (bd_ay bt) (by omega)
    · exact good_ay (ay1 (k := 3) (by decide) (ay2 (k := 2) (by decide) (bd_ay bt) (bd_ay bb))) (by simp only [tpL, lcL, lnL]; omega)
    · exact good_ay (ay2 (k := 3) (by decide) (ay2 (k := 2) (by decide) (bd_ay bt) (bd_ay bb)) (bd_ay b1)) (by simp only [tpL, lcL, lnL]; omega)
    · exact good_ay (ay2 (k := 3) (by decide) (ay2 (k := 2) (by decide) (bd_ay bt) (bd_ay bb)) (ay2 (k := 2) (by decide) (bd_ay bt) (bd_ay bb))) (by simp only [tpL, lcL, lnL]; omega)
    · exact good_ay (ay2 (k := 3) (by decide) (ay_bl true) (bd_ay b1)) (by simp only [tpL, lcL, lnL, bl]; omega)
    · exact good_ay (ay2 (k := 3) (by decide) (bd_ay b1) (ay_bl true)) (by simp only [tpL, lcL, lnL, bl]; omega)
    · exact good_ay (ay2 (k := 3) (by decide) (ay_bl false) (bd_ay b1)) (by simp only [tpL, lcL, lnL, bl]; omega)
  · obtain ⟨xt, yt⟩ := txt bt
    obtain ⟨xb, yb⟩ := txt bb
    simp only [A2, List.mem_cons, List.not_mem_nil, or_false] at hm
    rcases hm with rfl | rfl | rfl | rfl | rfl
    · exact good_ay (ay2 (k := 3) (by decide) xt (bd_ay bb)) (by simp only [tpL, lcL, lnL]; omega)
    · exact good_ay (ay2 (k := 3) (by decide) (bd_ay bt) xb) (by simp only [tpL, lcL, lnL]; omega)
    · exact good_ay (ay2 (k := 3) (by decide) ay_non (bd_ay bb)) (by simp only [tpL, lcL, lnL, non]; omega)
    · exact good_ay (ay2 (k := 3) (by decide) (bd_ay bt) ay_non) (by simp only [tpL, lcL, lnL, non]; omega)
    · exact good_ay (ay2 (k := 3) (by decide) (bd_ay bt) (ay1 (k := 2) (by decide) (bd_ay bb))) (by simp only [tpL, lcL, lnL]; omega)
  · simp only [A3, List.mem_singleton] at hm
    subst hm
    exact good_ay (ay2 (k := 3) (by decide) (ay_lst (k := 2) (by simp) fun x hx => by rw [List.mem_singleton.mp hx]; exact bd_ay bt) (bd_ay bb)) (by simp only [tpL, lsL, lcL, lnL]; omega)
  · simp only [A4, List.mem_cons, List.not_mem_nil, or_false] at hm
    rcases hm with rfl | rfl | rfl | rfl | rfl | rfl
    · exact p2 tb bb
    · exact p2 bb b1
    · exact p2 b1 bb
    · exact p2 nt bb
    · exact p2 bt b1
    · exact p2 bt bp
  · simp only [A5, List.mem_cons, List.not_mem_nil, or_false] at hm
    rcases hm with rfl | rfl | rfl | rfl | rfl | rfl | rfl | rfl | rfl
    · exact hd
    · exact good_ay ay_non (by omega)
    · exact good_ay (ay_bl true) (by rw [bl]; omega)
    · exact good_ay ⟨by decide, by decide +kernel⟩ (by simp only [lD]; decide)
    · exact good_ay ⟨by decide, by decide +kernel⟩ (by simp only [lD]; decide)
    · exact good_ay (show Ay 230 60 4 (.dct []) from rfl) (by simp only [lD]; decide)
    · exact good_dct (by have : (10 : Nat) ^ 62 < 10 ^ 63 := by decide
                         have h' : t.natAbs < 10 ^ 62 := bt
                         omega) (by have : (10 : Nat) ^ 62 < 10 ^ 63 := by decide
                                    have h' : b.natAbs < 10 ^ 62 := bb
                                    omega)
    · exact good_ay (ay_lst (k := 3) (by simp) (by simp)) (by rw [lsL, lnL]; omega)
    · exact good_ay (ay_tup (k := 3) (by simp) (by simp)) (by rw [tpL, lnL]; omega)
theorem oAdd_tup' {xs ys : List D} {S : Sto} (h : szOk (xs.length + ys.length) = true) : oAdd (.tup xs) (.tup ys) S = .ok (.tup (xs ++ ys)) S := by rw [oAdd_tup, if_pos h]
theorem catD_at {n : Nat} {xs ys : List D} {S : Sto} (h : S[n]? = some (.lst xs)) (hz : szOk (xs.length + ys.length) = true) : catD (.ob n) (.lst ys) S = some (xs ++ ys) := by
  have l1 : lstOf (.ob n) S = some xs := lstOf_ob h
  have l2 : lstOf (.lst ys) S = some ys := rfl
  unfold catD
  simp only [l1, l2, hz, if_true]
theorem oAddS_at {n : Nat} {xs ys : List D} {S : Sto} (h : S[n]? = some (.lst xs)) (hz : szOk (xs.length + ys.length) = true) : oAddS (.ob n) (.lst ys) S = .ok (.ob S.length) (S ++ [.lst (xs ++ ys)]) := by
  unfold oAddS
  rw [catD_at h hz]
theorem draw_ex {m : Int} (h : Pk p k) (hk : k ≤ 1000000000000) (hm : 0 < m) (hm2 : m.natAbs < 2 ^ 200) : ∃ v p', F_l_draw [.ob 0, .int m] (Pn ns p T) = .ok (.int v) (Pn ns p' T) ∧ 0 ≤ v ∧ v < m ∧ Pk p' (k + 1) := by
  obtain ⟨d, S, e, v, p', rfl, rfl, a, b, c⟩ := (wp_draw (T := T) (ns := ns) (Q := fun d S => ∃ v p', d = .int v ∧ S = Pn ns p' T ∧ 0 ≤ v ∧ v < m ∧ Pk p' (k + 1)) (E := fun _ _ => False) h hk hm hm2 fun v p' a b c => ⟨v, p', rfl, rfl, a, b, c⟩).get
  exact ⟨v, p', e, a, b, c⟩
theorem wp_things (h : Pk p k) (hk : k + 20 ≤ 1000000000000) (ht : t.natAbs < 2 ^ 200) (hb : b.natAbs < 2 ^ 200) (q : ∀ (ds : List D) p', (∀ d ∈ ds, Good d) → ds.length ≤ 60 → Pk p' (k + 20) → Q (.lst ds) (Pn ns p' T)) : Wp (F_l_things [.ob 0, .tup [.int t, .int b]] (Pn ns p T)) Q E := by
  have z0 : szOk 0 = true := gd_of (by decide)
  have z1 : szOk (0 + 1) = true := gd_of (by decide)
  have z2 : szOk (0 + 1 + 1) = true := gd_of (by decide)
  have z21 : szOk (0 + 1 + 1 + (0 + 1)) = true := gd_of (by decide)
  have z3 : szOk (0 + 1 + 1 + 1) = true := gd_of (by decide)
  have z5 : szOk (0 + 1 + 1 + 1 + 1 + 1) = true := gd_of (by decide)
  have z6 : szOk (0 + 1 + 1 + 1 + 1 + 1 + 1) = true := gd_of (by decide)
  have z9 : szOk (0 + 1 + 1 + 1 + 1 + 1 + 1 + 1 + 1 + 1) = true := gd_of (by decide)
  have z10 : szOk (0 + 1 + 1 + 1 + 1 + 1 + 1 + 1 + 1 + 1 + 1) = true := gd_of (by decide)
  refine wp_run ?_
  show Ws (b_l_things [some (.ob 0), some (.tup [.int t, .int b]), none, none, none, none, none, none] (Pn ns p T)) _
  unfold b_l_things
  refine ws_step (ρ' := [some (.ob 0), some (.tup [.int t, .int b]), some (.int t), some (.int b), none, none, none, none]) (S' := Pn ns p T) (by simp [c_l_things_0]) ?_
  obtain ⟨v, p1, e1, v0, v1, h1⟩ := draw_ex (ns := ns) (T := T) (m := 9) h (by omega) (by decide) (by decide)
  obtain ⟨y, hy⟩ : ∃ y, y = 2 + v := ⟨_, rfl⟩
  refine ws_step (ρ' := [some (.ob 0), some (.tup [.int t, .int b]), some (.int t), some (.int b), some (.int y), some (.tup [.int 1, .int 1]), none, none]) (S' := Pn ns p1 T) (by
    simp only [c_l_things_1, sPar_eq, eTup_eq, eOp_eq, eCall_eq, aCons_eq, aNil_eq, eC_eq, eVar_s, eVar_0, bind_ok, e1, oAdd_int, ← hy, List.length_cons, List.length_nil, z2, if_true, sb_ok, List.set]) ?_
  refine ws_seq ?_
  obtain ⟨u, p2, e2, u0, u1, h2⟩ := draw_ex (ns := ns) (T := T) (m := 9) h1 (by omega) (by decide) (by decide)
  obtain ⟨n, rfl⟩ : ∃ n : Nat, u = n := ⟨u.toNat, (Int.toNat_of_nonneg u0).symm⟩
  have gn : gd (-(2 ^ 62) ≤ (n : Int) ∧ (n : Int) < 2 ^ 62) = true := gd_of (by omega)
  refine ws_forR (lo := 0) (n := n) (S1 := Pn ns p2 T) (by
    simp only [iRng_eq, eCall_eq, aCons_eq, aNil_eq, eC_eq, eVar_s, eVar_0, bind_ok, e2, gn, if_true, Int.toNat_natCast]) (fun i ρ S => ∃ dp x6 p', ρ = [some (.ob 0), some (.tup [.int t, .int b]), some (.int t), some (.int b), some (.int y), some dp, x6, none] ∧ S = Pn ns p' T ∧ Deep i dp ∧ Pk p' (k + 2 + i)) ⟨_, none, p2, rfl, rfl, deep0, h2.mono (by omega)⟩ ?_ ?_
  · rintro i hi ρ S ⟨dp, x6, p', rfl, rfl, hd, hp⟩
    refine ⟨_, put_nm _ _ _ _, ?_⟩
    simp only [List.set, Int.zero_add]
    obtain ⟨c, p3, e3, c0, c1, h3⟩ := draw_ex (ns := ns) (T := T) (m := 3) hp (by omega) (by decide) (by decide)
    have ed : ∀ S, eDct1 6 5 [some (.ob 0), some (.tup [.int t, .int b]), some (.int t), some (.int b), some (.int y), some dp, some (.int (i : Nat)), none] S = .ok (.dct [(.inl (i : Nat), dp)]) S := fun S => rfl
    obtain ⟨d2, ha, hd2⟩ : ∃ d2, atI [D.tup [dp], .lst [dp], .dct [(.inl (i : Nat), dp)]] c = some d2 ∧ Deep (i + 1) d2 := by
      have hc : c = 0 ∨ c = 1 ∨ c = 2 := by omega
      rcases hc with rfl | rfl | rfl
      · exact ⟨_, rfl, deep_tup hd⟩
      · exact ⟨_, rfl, deep_lst hd⟩
      · exact ⟨_, rfl, deep_dct hd (by omega)⟩
    have st : c_l_things_2_0 [some (.ob 0), some (.tup [.int t, .int b]), some (.int t), some (.int b), some (.int y), some dp, some (.int (i : Nat)), none] (Pn ns p' T) = .nx [some (.ob 0), some (.tup [.int t, .int b]), some (.int t), some (.int b), some (.int y), some d2, some (.int (i : Nat)), none] (Pn ns p3 T) := by
      simp only [c_l_things_2_0, sAsg_nm, eOp_eq, eLst_eq, eTup_eq, eCall_eq, aCons_eq, aNil_eq, eC_eq, eVar_s, eVar_0, bind_ok, ed, e3, List.length_cons, List.length_nil, z1, z3, if_true, oIx_lst, ha, sb_ok, List.set]
    rw [st]
    exact ⟨d2, _, p3, rfl, rfl, hd2, h3.mono (by omega)⟩
  · rintro ρ S ⟨dp, x6, p', rfl, rfl, hd, hp⟩
    dsimp only
    have good := all_good (y := y) ht hb (by omega) (hd.good (by omega))
    have mt : mulOk t y = true := mulOk_of (a := 200) (b := 10) ht (by omega) (by decide)
    have mb : mulOk b y = true := mulOk_of (a := 200) (b := 10) hb (by omega) (by decide)
    have lg : ∀ i : Int, i.natAbs < 2 ^ 200 → gd (i.natAbs.log2 < 1920) = true := fun i hi => gd_of (by
      by_cases h0 : i.natAbs = 0
      · rw [h0]; decide
      · exact (Nat.log2_lt h0).mpr (pow_mono hi (by decide)))
    have st : ∀ S, cStr [.int t] S = .ok (.str (toString t)) S := fun S => by simp only [cStr, lg t ht, if_true]
    have sb : ∀ S, cStr [.int b] S = .ok (.str (toString b)) S := fun S => by simp only [cStr, lg b hb, if_true]
    have q0 : (A0 t b y).length = 9 := rfl
    have q1 : (A1 t b).length = 10 := rfl
    have q2 : (A2 t b).length = 5 := rfl
    have q4 : (A4 t b).length = 6 := rfl
    refine ws_step (ρ' := [some (.ob 0), some (.tup [.int t, .int b]), some (.int t), some (.int b), some (.int y), some dp, x6, some (.ob (T.length + 1))]) (S' := Pn ns p' (T ++ [.lst (A0 t b y)])) (by
      simp only [c_l_things_3, sAsg_nm, eLstS_eq, eTup_eq, eOp_eq, eCall_eq, aCons_eq, aNil_eq, eC_eq, eVar_s, eVar_0, bind_ok, oMul_int _ mt, oMul_int _ mb, oSub_int, List.length_cons, List.length_nil, z2, z9, if_true, sb_ok, List.set]
      rfl) ?_
    obtain ⟨X, hX⟩ : ∃ X, X = A0 t b y := ⟨_, rfl⟩
    rw [← hX] at q0 good ⊢
    have at0 : (Pn ns p' (T ++ [.lst X]))[T.length + 1]? = some (.lst X) := pn_at
    have add1 := oAddS_at (ys := A1 t b) at0 (gd_of (by omega))
    refine ws_step (ρ' := [some (.ob 0), some (.tup [.int t, .int b]), some (.int t), some (.int b), some (.int y), some dp, x6, some (.ob ((T ++ [O.lst X]).length + 1))]) (S' := Pn ns p' ((T ++ [O.lst X]) ++ [O.lst (X ++ A1 t b)])) (by
      have cut : ∀ S, oSl (.tup [.int t, .int b]) none (some 1) S = .ok (.tup [.int t]) S := fun S => rfl
      have cl : ∀ S, cList [.tup [.int t, .int b]] S = .ok (.lst [.int t, .int b]) S := fun S => rfl
      have ad : ∀ S, oAdd (.tup [.int t, .int b]) (.tup [.int 1]) S = .ok (.tup [.int t, .int b, .int 1]) S := fun S => oAdd_tup' (gd_of (by simp))
      have a1 : (eLst (aCons (eOp oAdd (eVar 1) (eTup (aCons (eC (.int 1)) aNil))) (aCons (eSl (eVar 1) pNo (pAt (eC (.int 1)))) (aCons (eB cList (aCons (eVar 1) aNil)) (aCons (eVar 2) (aCons (eTup (aCons (eVar 1) aNil)) (aCons (eTup (aCons (eVar 1) (aCons (eC (.int 1)) aNil))) (aCons (eTup (aCons (eVar 1) (aCons (eVar 1) aNil))) (aCons (eTup (aCons (eC (.bl true)) (aCons (eC (.int 1)) aNil))) (aCons (eTup (aCons (eC (.int 1)) (aCons (eC (.bl true)) aNil))) (aCons (eTup (aCons (eC (.bl false)) (aCons (eC (.int 1)) aNil))) aNil))))))))))) [some (.ob 0), some (.tup [.int t, .int b]), some (.int t), some (.int b), some (.int y), some dp, x6, some (.ob (T.length + 1))] (Pn ns p' (T ++ [.lst X])) = .ok (.lst (A1 t b)) (Pn ns p' (T ++ [.lst X])) := by
        simp only [eLst_eq, eTup_eq, eOp_eq, eB_eq, eSl_eq, pAt_eq, pNo_eq, aCons_eq, aNil_eq, eC_eq, eVar_s, eVar_0, bind_ok, ad, cut, cl, List.length_cons, List.length_nil, z1, z2, z10, if_true]
        rfl
      simp only [c_l_things_4, sAsg_nm, eOp_eq, a1, eVar_s, eVar_0, bind_ok, add1, sb_ok, List.set, pn_app, pn_len]) ?_
    obtain ⟨T1, hT1⟩ : ∃ T1, T1 = T ++ [O.lst X] := ⟨_, rfl⟩
    rw [← hT1]
    obtain ⟨X1, hX1⟩ : ∃ X1, X1 = X ++ A1 t b := ⟨_, rfl⟩
    rw [← hX1] at good ⊢
    have q5 : X1.length = 19 := by rw [hX1, List.length_append, q0, q1]
    have at1 : (Pn ns p' (T1 ++ [.lst X1]))[T1.length + 1]? = some (.lst X1) := pn_at
    have add2 := oAddS_at (ys := A2 t b) at1 (gd_of (by omega))
    refine ws_step (ρ' := [some (.ob 0), some (.tup [.int t, .int b]), some (.int t), some (.int b), some (.int y), some dp, x6, some (.ob ((T1 ++ [O.lst X1]).length + 1))]) (S' := Pn ns p' ((T1 ++ [O.lst X1]) ++ [O.lst (X1 ++ A2 t b)])) (by
      have a2 : (eLst (aCons (eTup (aCons (eB cStr (aCons (eVar 2) aNil)) (aCons (eVar 3) aNil))) (aCons (eTup (aCons (eVar 2) (aCons (eB cStr (aCons (eVar 3) aNil)) aNil))) (aCons (eTup (aCons (eC .non) (aCons (eVar 3) aNil))) (aCons (eTup (aCons (eVar 2) (aCons (eC .non) aNil))) (aCons (eTup (aCons (eVar 2) (aCons (eTup (aCons (eVar 3) aNil)) aNil))) aNil)))))) [some (.ob 0), some (.tup [.int t, .int b]), some (.int t), some (.int b), some (.int y), some dp, x6, some (.ob (T1.length + 1))] (Pn ns p' (T1 ++ [.lst X1])) = .ok (.lst (A2 t b)) (Pn ns p' (T1 ++ [.lst X1])) := by
        simp only [eLst_eq, eTup_eq, eOp_eq, eB_eq, aCons_eq, aNil_eq, eC_eq, eVar_s, eVar_0, bind_ok, st, sb, List.length_cons, List.length_nil, z1, z2, z5, if_true]
        rfl
      simp only [c_l_things_5, sAsg_nm, eOp_eq, a2, eVar_s, eVar_0, bind_ok, add2, sb_ok, List.set, pn_app, pn_len]) ?_
    obtain ⟨T2, hT2⟩ : ∃ T2, T2 = T1 ++ [O.lst X1] := ⟨_, rfl⟩
    rw [← hT2]
    obtain ⟨X2, hX2⟩ : ∃ X2, X2 = X1 ++ A2 t b := ⟨_, rfl⟩
    rw [← hX2] at good ⊢
    have q6 : X2.length = 24 := by rw [hX2, List.length_append, q5, q2]
    have at2 : (Pn ns p' (T2 ++ [.lst X2]))[T2.length + 1]? = some (.lst X2) := pn_at
    have ap := eApp_at (a := eVar 7) (b := eTup (aCons (eLst (aCons (eVar 2) aNil)) (aCons (eVar 3) aNil))) (ρ := [some (.ob 0), some (.tup [.int t, .int b]), some (.int t), some (.int b), some (.int y), some dp, x6, some (.ob (T2.length + 1))]) (S := Pn ns p' (T2 ++ [.lst X2])) (S2 := Pn ns p' (T2 ++ [.lst X2])) (n := T2.length + 1) (d := .tup [.lst [.int t], .int b]) rfl at2 (by simp only [eLst_eq, eTup_eq, aCons_eq, aNil_eq, eVar_s, eVar_0, bind_ok, List.length_cons, List.length_nil, z1, z2, if_true]) at2 (by omega)
    rw [pn_set] at ap
    refine ws_step (ρ' := [some (.ob 0), some (.tup [.int t, .int b]), some (.int t), some (.int b), some (.int y), some dp, x6, some (.ob (T2.length + 1))]) (S' := Pn ns p' (T2 ++ [O.lst (X2 ++ A3 t b)])) (by
      simp only [c_l_things_6, sExpr_eq, ap, sb_ok]
      rfl) ?_
    obtain ⟨X3, hX3⟩ : ∃ X3, X3 = X2 ++ A3 t b := ⟨_, rfl⟩
    rw [← hX3] at good ⊢
    have q7 : X3.length = 25 := by rw [hX3, List.length_append, q6]; rfl
    have at3 : (Pn ns p' (T2 ++ [.lst X3]))[T2.length + 1]? = some (.lst X3) := pn_at
    have add4 := oAddS_at (ys := A4 t b) at3 (gd_of (by omega))
    refine ws_step (ρ' := [some (.ob 0), some (.tup [.int t, .int b]), some (.int t), some (.int b), some (.int y), some dp, x6, some (.ob ((T2 ++ [O.lst X3]).length + 1))]) (S' := Pn ns p' ((T2 ++ [O.lst X3]) ++ [O.lst (X3 ++ A4 t b)])) (by
      have a4 : (eLst (aCons (eTup (aCons (eOp oAdd (eVar 2) (eVar 3)) (aCons (eVar 3) aNil))) (aCons (eTup (aCons (eVar 3) (aCons (eC (.int 1)) aNil))) (aCons (eTup (aCons (eC (.int 1)) (aCons (eVar 3) aNil))) (aCons (eTup (aCons (eOp oSub (eC (.int 0)) (eVar 2)) (aCons (eVar 3) aNil))) (aCons (eTup (aCons (eVar 2) (aCons (eC (.int 1)) aNil))) (aCons (eTup (aCons (eVar 2) (aCons (eOp oAdd (eVar 3) (eC (.int 1))) aNil))) aNil))))))) [some (.ob 0), some (.tup [.int t, .int b]), some (.int t), some (.int b), some (.int y), some dp, x6, some (.ob (T2.length + 1))] (Pn ns p' (T2 ++ [.lst X3])) = .ok (.lst (A4 t b)) (Pn ns p' (T2 ++ [.lst X3])) := by
        simp only [eLst_eq, eTup_eq, eOp_eq, eB_eq, aCons_eq, aNil_eq, eC_eq, eVar_s, eVar_0, bind_ok, oAdd_int, oSub_int, List.length_cons, List.length_nil, z1, z2, z6, if_true]
        rfl
      simp only [c_l_things_7, sAsg_nm, eOp_eq, a4, eVar_s, eVar_0, bind_ok, add4, sb_ok, List.set, pn_app, pn_len]) ?_
    obtain ⟨T3, hT3⟩ : ∃ T3, T3 = T2 ++ [O.lst X3] := ⟨_, rfl⟩
    rw [← hT3]
    obtain ⟨X4, hX4⟩ : ∃ X4, X4 = X3 ++ A4 t b := ⟨_, rfl⟩
    rw [← hX4] at good ⊢
    have q8 : X4.length = 31 := by rw [hX4, List.length_append, q7, q4]
    have at4 : (Pn ns p' (T3 ++ [.lst X4]))[T3.length + 1]? = some (.lst X4) := pn_at
    have q9 : (A5 t b dp).length = 9 := rfl
    have add5 : oAdd (.ob (T3.length + 1)) (.lst (A5 t b dp)) (Pn ns p' (T3 ++ [.lst X4])) = .ok (.lst (X4 ++ A5 t b dp)) (Pn ns p' (T3 ++ [.lst X4])) := by
      have c := catD_at (ys := A5 t b dp) at4 (gd_of (by omega))
      simp only [oAdd, c]
    have a5 : (eLst (aCons (eVar 5) (aCons (eC .non) (aCons (eC (.bl true)) (aCons (eC (.str "")) (aCons (eC (.str "1/2")) (aCons (eC (.dct [])) (aCons (eDct1 2 3) (aCons (eLst aNil) (aCons (eTup aNil) aNil)))))))))) [some (.ob 0), some (.tup [.int t, .int b]), some (.int t), some (.int b), some (.int y), some dp, x6, some (.ob (T3.length + 1))] (Pn ns p' (T3 ++ [.lst X4])) = .ok (.lst (A5 t b dp)) (Pn ns p' (T3 ++ [.lst X4])) := by
      have ed : ∀ S, eDct1 2 3 [some (.ob 0), some (.tup [.int t, .int b]), some (.int t), some (.int b), some (.int y), some dp, x6, some (.ob (T3.length + 1))] S = .ok (.dct [(.inl t, .int b)]) S := fun S => rfl
      simp only [eLst_eq, eTup_eq, aCons_eq, aNil_eq, eC_eq, eVar_s, eVar_0, bind_ok, ed, List.length_cons, List.length_nil, z0, z9, if_true]
      rfl
    simp only [c_l_things_8, sRet_eq, eOp_eq, a5, eVar_s, eVar_0, bind_ok, add5, sb_ok, ws_rt]
    refine ⟨Pn ns p' T, [.lst X, .lst X1, .lst X3, .lst X4], .lst (X4 ++ A5 t b dp), ?_, kp_pen, frz_pl 40 _ (pl_lst ((pls_iff (k := 38)).mpr fun d hd => (good d hd).pl.le (by decide))), q _ p' good (by rw [List.length_append]; omega) (hp.mono (by omega))⟩
    rw [hT3, hT2, hT1]
    simp only [pn_app, List.append_assoc, List.cons_append, List.nil_append]
theorem number_ex (h : Pk p k) (hk : k + 20 ≤ 1000000000000) : ∃ i p', F_l_number [.ob 0] (Pn ns p T) = .ok (.int i) (Pn ns p' T) ∧ i.natAbs < 2 ^ 200 ∧ Pk p' (k + 20) := by
  obtain ⟨d, S, e, i, p', rfl, rfl, a, b⟩ := (wp_number (T := T) (ns := ns) (Q := fun d S => ∃ i p', d = .int i ∧ S = Pn ns p' T ∧ i.natAbs < 2 ^ 200 ∧ Pk p' (k + 20)) (E := fun _ _ => False) h hk fun i p' a b => ⟨i, p', rfl, rfl, by
    have : (1000000000000000000000000000000000000000000000000000000000000 : Nat) < 2 ^ 200 := by decide
    omega, b⟩).get
  exact ⟨i, p', e, a, b⟩
theorem law_wp (ns : List Int) : Wp (F_law [.ro ns] []) (fun d _ => d = .bl true) fun _ _ => False := by
  have z1 : szOk (0 + 1) = true := gd_of (by decide)
  have z2 : szOk (0 + 1 + 1) = true := gd_of (by decide)
  obtain ⟨ms, ep⟩ := pen_ok ns
  refine wp_run ?_
  show Ws (b_law [some (.ro ns), none, none, none, none, none, none] []) _
  unfold b_law
  refine ws_step (ρ' := [some (.ro ns), some (.ob 0), none, none, none, none, none]) (S' := Pn ms (0, 0) []) (by
    simp only [c_law_0, sAsg_nm, eCall_eq, aCons_eq, aNil_eq, eVar_0, bind_ok, ep, sb_ok, List.set]) ?_
  have h0 : Pk (0, 0) 0 := ⟨by decide, by decide⟩
  refine ws_seq ?_
  refine ws_forR (lo := 0) (n := 3) (S1 := Pn ms (0, 0) []) (iRng_ok (n := 3) rfl (by decide) _ _) (fun i ρ S => ∃ x2 x3 x4 x5 x6 p', ρ = [some (.ro ns), some (.ob 0), x2, x3, x4, x5, x6] ∧ S = Pn ms p' [] ∧ Pk p' (100 * i)) ⟨none, none, none, none, none, _, rfl, rfl, h0⟩ ?_ ?_
  · rintro i hi ρ S ⟨x2, x3, x4, x5, x6, p', rfl, rfl, hp⟩
    refine ⟨_, put_nm _ _ _ _, ?_⟩
    simp only [List.set]
    obtain ⟨a, p1, e1, ba, h1⟩ := number_ex (ns := ms) (T := []) hp (by omega)
    obtain ⟨b, p2, e2, bb, h2⟩ := number_ex (ns := ms) (T := []) h1 (by omega)
    obtain ⟨c, hc, c0, bc⟩ : ∃ c : Int, eOr (eCall F_l_number (aCons (eVar 1) aNil)) (eC (.int 1)) [some (.ro ns), some (.ob 0), some (.int (0 + (i : Nat))), x3, x4, x5, x6] (Pn ms p1 []) = .ok (.int c) (Pn ms p2 []) ∧ c ≠ 0 ∧ c.natAbs < 2 ^ 200 := by
      by_cases z : b = 0
      · have z' : (b != 0) = false := by rw [z]; rfl
        exact ⟨1, by simp only [eOr_eq, eCall_eq, aCons_eq, aNil_eq, eVar_s, eVar_0, bind_ok, e2, truD_int, z', eC_eq], by decide, by decide⟩
      · have z' : (b != 0) = true := by simpa using z
        exact ⟨b, by simp only [eOr_eq, eCall_eq, aCons_eq, aNil_eq, eVar_s, eVar_0, bind_ok, e2, truD_int, z', eC_eq], z, bb⟩
    have low := fun S => l_low_ok (a := a) (b := c) S c0 (pow_mono ba (by decide)) (pow_mono bc (by decide))
    have bq : Bq 200 (Rat.divInt a c) := Bq_divInt c0 ba bc
    obtain ⟨q, hq⟩ : ∃ q, q = Rat.divInt a c := ⟨_, rfl⟩
    rw [← hq] at bq
    simp only [← hq] at low
    refine ws_step (ρ' := [some (.ro ns), some (.ob 0), some (.int (0 + (i : Nat))), some (fq q), x4, x5, x6]) (S' := Pn ms p2 []) (by
      have n1 : (eCall F_l_number (aCons (eVar 1) aNil)) [some (.ro ns), some (.ob 0), some (.int (0 + (i : Nat))), x3, x4, x5, x6] (Pn ms p' []) = .ok (.int a) (Pn ms p1 []) := by simp only [eCall_eq, aCons_eq, aNil_eq, eVar_s, eVar_0, bind_ok, e1]
      rw [c_law_1_0, sAsg_nm, eCall_eq (F := F_l_low), aCons_eq, n1, bind_ok, aCons_eq, hc]
      simp only [aNil_eq, bind_ok, low, sb_ok, List.set]) ?_
    obtain ⟨d, S1, e3, ds, p3, rfl, rfl, good, dl, h3⟩ := (wp_things (t := q.num) (b := (q.den : Int)) (T := []) (ns := ms) (Q := fun d S => ∃ (ds : List D) (p' : Int × Int), d = .lst ds ∧ S = Pn ms p' [] ∧ (∀ d ∈ ds, Good d) ∧ ds.length ≤ 60 ∧ Pk p' (100 * i + 20 + 20 + 20)) (E := fun _ _ => False) h2 (by omega) bq.1 (by rw [den_abs]; exact bq.2) fun ds p' a b c => ⟨ds, p', rfl, rfl, a, b, c⟩).get
    have e3' : F_l_things [.ob 0, fq q] (Pn ms p2 []) = .ok (.lst ds) (Pn ms p3 []) := e3
    refine ws_forV (qs := ds) (g := id) (S1 := Pn ms p3 []) (it := .vlst (ds.map id)) (by
      simp only [iSeq_eq, eCall_eq, aCons_eq, aNil_eq, eC_eq, eVar_s, eVar_0, bind_ok, e3', List.map_id]) (.inr rfl) (fun j ρ S => ∃ x4 x5 x6, ρ = [some (.ro ns), some (.ob 0), some (.int (0 + (i : Nat))), some (fq q), x4, x5, x6] ∧ S = Pn ms p3 []) ⟨_, _, _, rfl, rfl⟩ ?_ ?_
    · rintro j hj ρ S ⟨x4, x5, x6, rfl, rfl⟩
      refine ⟨_, put_nm _ _ _ _, ?_⟩
      have gd := good _ (List.getElem_mem hj)
      simp only [List.set, id]
      generalize ds[j] = y at gd
      obtain ⟨⟨Z, sz, er⟩, ⟨v, f1, f2⟩, _⟩ := gd
      have ne := fun S => oNe_str sz S
      refine ws_step (ρ' := [some (.ro ns), some (.ob 0), some (.int (0 + (i : Nat))), some (fq q), some y, some (.str Z), x6]) (S' := Pn ms p3 []) (by
        simp only [c_law_1_1_0, sAsg_nm, eB_eq, aCons_eq, aNil_eq, eVar_s, eVar_0, bind_ok, er, sb_ok, List.set]) ?_
      refine ws_step (ρ' := [some (.ro ns), some (.ob 0), some (.int (0 + (i : Nat))), some (fq q), some y, some (.str Z), some (.lst [.bl v, .bl v])]) (S' := Pn ms p3 []) (by
        simp only [c_law_1_1_1, sAsg_nm, eLst_eq, eCall_eq, aCons_eq, aNil_eq, eVar_s, eVar_0, bind_ok, f1, List.length_cons, List.length_nil, z2, if_true, sb_ok, List.set]) ?_
      have rep : ∀ S, oMul (.lst [.bl v]) (.int 2) S = .ok (.lst [.bl v, .bl v]) S := fun S => by
        have g : (gd (0 ≤ (2 : Int) ∧ (2 : Int) ≤ 1000000) && szOk ([D.bl v].length * (2 : Int).toNat)) = true := by
          rw [gd_of (by decide), show szOk ([D.bl v].length * (2 : Int).toNat) = true from gd_of (by simp)]; rfl
        simp only [oMul, repD, lstOf, g, if_true]
        rfl
      have se : Se 12 (.lst [.bl v, .bl v]) := ⟨by simp, fun d hd => by
        simp only [List.mem_cons, List.not_mem_nil, or_false] at hd
        rcases hd with rfl | rfl <;> trivial⟩
      have sm := fun S => same_okD 12 se S
      simp only [c_law_1_1_2, sIf_eq, bOr_eq, bNot_eq, tTru_eq, eOp_eq, eB_eq, eLst_eq, eCall_eq, aCons_eq, aNil_eq, eC_eq, eVar_s, eVar_0, bind_ok, f2, List.length_cons, List.length_nil, z1, if_true, rep, F_l_same, sm, truD_bl, Bool.not_true, Bool.false_eq_true, if_false, er, ne, sb_ok, sNil_eq, ws_nx]
      exact ⟨_, _, _, rfl, rfl⟩
    · rintro ρ S ⟨x4, x5, x6, rfl, rfl⟩
      exact ⟨_, _, _, _, _, p3, rfl, rfl, h3.mono (by omega)⟩
  · rintro ρ S ⟨x2, x3, x4, x5, x6, p', rfl, rfl, hp⟩
    simp only [c_law_2, sRet_eq, eC_eq, sb_ok, ws_rt]
    exact ⟨[], Pn ms p' [], .bl true, rfl, ⟨rfl, fun i o h => by simp at h⟩, by simp [frz], rfl⟩
theorem law_true : ∀ ns : List Int, ns.length ≤ 63 → ∃ S, F_law [.ro ns] [] = .ok (.bl true) S := fun ns _ => by
  obtain ⟨d, S, e, rfl⟩ := (law_wp ns).get
  exact ⟨S, e⟩
end
end Lk03
set_option Elab.async false
set_option linter.all false
set_option maxRecDepth 100000
set_option maxHeartbeats 20000000
namespace Lk03
open PySem PySem.Spec PyProof.Rows L2 DV
theorem txt_mk {K : PySem.W.Frag} {h : Heap} {mg : Str → Option Value} (X : K.In h) (G : h.Ns mainGlobals mg)
    {f_is_fraction : Addr} {od_is_fraction an_is_fraction : Option Addr} {sl_is_fraction : Array (Option Value)} {oc_is_fraction kV_is_fraction dc_is_fraction pm_is_fraction cd_is_fraction ct_is_fraction : Value}
    (a_is_fraction : PySem.W.nsIn K mainGlobals "is_fraction" = some (some (.ref f_is_fraction))) (l_is_fraction : K.lookup f_is_fraction = some ⟨oc_is_fraction, od_is_fraction, .func (PySem.W.fnOf "is_fraction" "is_fraction" (defArgs s_is_fraction) (defBody s_is_fraction) (defScope s_is_fraction) .none kV_is_fraction dc_is_fraction pm_is_fraction an_is_fraction cd_is_fraction ct_is_fraction), sl_is_fraction⟩) (c_is_fraction : PySem.W.codeIn K cd_is_fraction "is_fraction" = true) (k_is_fraction : PySem.W.keepIn K (.ref f_is_fraction) = true)
    {f_l_pen : Addr} {od_l_pen an_l_pen : Option Addr} {sl_l_pen : Array (Option Value)} {oc_l_pen kV_l_pen dc_l_pen pm_l_pen cd_l_pen ct_l_pen : Value}
    (a_l_pen : PySem.W.nsIn K mainGlobals "_law_pen" = some (some (.ref f_l_pen))) (l_l_pen : K.lookup f_l_pen = some ⟨oc_l_pen, od_l_pen, .func (PySem.W.fnOf "_law_pen" "_law_pen" (defArgs s_l_pen) (defBody s_l_pen) (defScope s_l_pen) .none kV_l_pen dc_l_pen pm_l_pen an_l_pen cd_l_pen ct_l_pen), sl_l_pen⟩) (c_l_pen : PySem.W.codeIn K cd_l_pen "_law_pen" = true) (k_l_pen : PySem.W.keepIn K (.ref f_l_pen) = true)
    {f_l_draw : Addr} {od_l_draw an_l_draw : Option Addr} {sl_l_draw : Array (Option Value)} {oc_l_draw kV_l_draw dc_l_draw pm_l_draw cd_l_draw ct_l_draw : Value}
    (a_l_draw : PySem.W.nsIn K mainGlobals "_law_draw" = some (some (.ref f_l_draw))) (l_l_draw : K.lookup f_l_draw = some ⟨oc_l_draw, od_l_draw, .func (PySem.W.fnOf "_law_draw" "_law_draw" (defArgs s_l_draw) (defBody s_l_draw) (defScope s_l_draw) .none kV_l_draw dc_l_draw pm_l_draw an_l_draw cd_l_draw ct_l_draw), sl_l_draw⟩) (c_l_draw : PySem.W.codeIn K cd_l_draw "_law_draw" = true) (k_l_draw : PySem.W.keepIn K (.ref f_l_draw) = true)
    {f_l_low : Addr} {od_l_low an_l_low : Option Addr} {sl_l_low : Array (Option Value)} {oc_l_low kV_l_low dc_l_low pm_l_low cd_l_low ct_l_low : Value}
    (a_l_low : PySem.W.nsIn K mainGlobals "_law_low" = some (some (.ref f_l_low))) (l_l_low : K.lookup f_l_low = some ⟨oc_l_low, od_l_low, .func (PySem.W.fnOf "_law_low" "_law_low" (defArgs s_l_low) (defBody s_l_low) (defScope s_l_low) .none kV_l_low dc_l_low pm_l_low an_l_low cd_l_low ct_l_low), sl_l_low⟩) (c_l_low : PySem.W.codeIn K cd_l_low "_law_low" = true) (k_l_low : PySem.W.keepIn K (.ref f_l_low) = true)
    {f_l_same : Addr} {od_l_same an_l_same : Option Addr} {sl_l_same : Array (Option Value)} {oc_l_same kV_l_same dc_l_same pm_l_same cd_l_same ct_l_same : Value}
    (a_l_same : PySem.W.nsIn K mainGlobals "_law_same" = some (some (.ref f_l_same))) (l_l_same : K.lookup f_l_same = some ⟨oc_l_same, od_l_same, .func (PySem.W.fnOf "_law_same" "_law_same" (defArgs s_l_same) (defBody s_l_same) (defScope s_l_same) .none kV_l_same dc_l_same pm_l_same an_l_same cd_l_same ct_l_same), sl_l_same⟩) (c_l_same : PySem.W.codeIn K cd_l_same "_law_same" = true) (k_l_same : PySem.W.keepIn K (.ref f_l_same) = true)
    {f_l_whole : Addr} {od_l_whole an_l_whole : Option Addr} {sl_l_whole : Array (Option Value)} {oc_l_whole kV_l_whole dc_l_whole pm_l_whole cd_l_whole ct_l_whole : Value}
    (a_l_whole : PySem.W.nsIn K mainGlobals "_law_whole" = some (some (.ref f_l_whole))) (l_l_whole : K.lookup f_l_whole = some ⟨oc_l_whole, od_l_whole, .func (PySem.W.fnOf "_law_whole" "_law_whole" (defArgs s_l_whole) (defBody s_l_whole) (defScope s_l_whole) .none kV_l_whole dc_l_whole pm_l_whole an_l_whole cd_l_whole ct_l_whole), sl_l_whole⟩) (c_l_whole : PySem.W.codeIn K cd_l_whole "_law_whole" = true) (k_l_whole : PySem.W.keepIn K (.ref f_l_whole) = true)
    {f_l_number : Addr} {od_l_number an_l_number : Option Addr} {sl_l_number : Array (Option Value)} {oc_l_number kV_l_number dc_l_number pm_l_number cd_l_number ct_l_number : Value}
    (a_l_number : PySem.W.nsIn K mainGlobals "_law_number" = some (some (.ref f_l_number))) (l_l_number : K.lookup f_l_number = some ⟨oc_l_number, od_l_number, .func (PySem.W.fnOf "_law_number" "_law_number" (defArgs s_l_number) (defBody s_l_number) (defScope s_l_number) .none kV_l_number dc_l_number pm_l_number an_l_number cd_l_number ct_l_number), sl_l_number⟩) (c_l_number : PySem.W.codeIn K cd_l_number "_law_number" = true) (k_l_number : PySem.W.keepIn K (.ref f_l_number) = true)
    {f_l_due : Addr} {od_l_due an_l_due : Option Addr} {sl_l_due : Array (Option Value)} {oc_l_due kV_l_due dc_l_due pm_l_due cd_l_due ct_l_due : Value}
    (a_l_due : PySem.W.nsIn K mainGlobals "_law_due" = some (some (.ref f_l_due))) (l_l_due : K.lookup f_l_due = some ⟨oc_l_due, od_l_due, .func (PySem.W.fnOf "_law_due" "_law_due" (defArgs s_l_due) (defBody s_l_due) (defScope s_l_due) .none kV_l_due dc_l_due pm_l_due an_l_due cd_l_due ct_l_due), sl_l_due⟩) (c_l_due : PySem.W.codeIn K cd_l_due "_law_due" = true) (k_l_due : PySem.W.keepIn K (.ref f_l_due) = true)
    {f_l_things : Addr} {od_l_things an_l_things : Option Addr} {sl_l_things : Array (Option Value)} {oc_l_things kV_l_things dc_l_things pm_l_things cd_l_things ct_l_things : Value}
    (a_l_things : PySem.W.nsIn K mainGlobals "_law_things" = some (some (.ref f_l_things))) (l_l_things : K.lookup f_l_things = some ⟨oc_l_things, od_l_things, .func (PySem.W.fnOf "_law_things" "_law_things" (defArgs s_l_things) (defBody s_l_things) (defScope s_l_things) .none kV_l_things dc_l_things pm_l_things an_l_things cd_l_things ct_l_things), sl_l_things⟩) (c_l_things : PySem.W.codeIn K cd_l_things "_law_things" = true) (k_l_things : PySem.W.keepIn K (.ref f_l_things) = true)
    {f_law : Addr} {od_law an_law : Option Addr} {sl_law : Array (Option Value)} {oc_law kV_law dc_law pm_law cd_law ct_law : Value}
    (a_law : PySem.W.nsIn K mainGlobals "law" = some (some (.ref f_law))) (l_law : K.lookup f_law = some ⟨oc_law, od_law, .func (PySem.W.fnOf "law" "law" (defArgs s_law) (defBody s_law) (defScope s_law) .none kV_law dc_law pm_law an_law cd_law ct_law), sl_law⟩) (c_law : PySem.W.codeIn K cd_law "law" = true) (k_law : PySem.W.keepIn K (.ref f_law) = true)
    (z_abs : PySem.W.nsIn K mainGlobals "abs" = some none)
    (z_all : PySem.W.nsIn K mainGlobals "all" = some none)
    (z_bool : PySem.W.nsIn K mainGlobals "bool" = some none)
    (z_int : PySem.W.nsIn K mainGlobals "int" = some none)
    (z_isinstance : PySem.W.nsIn K mainGlobals "isinstance" = some none)
    (z_len : PySem.W.nsIn K mainGlobals "len" = some none)
    (z_list : PySem.W.nsIn K mainGlobals "list" = some none)
    (z_range : PySem.W.nsIn K mainGlobals "range" = some none)
    (z_repr : PySem.W.nsIn K mainGlobals "repr" = some none)
    (z_str : PySem.W.nsIn K mainGlobals "str" = some none)
    (z_tuple : PySem.W.nsIn K mainGlobals "tuple" = some none)
    (z_zip : PySem.W.nsIn K mainGlobals "zip" = some none)
    (m_gcd : PySem.W.nsIn K mainGlobals "gcd" = some (some (.builtin "math.gcd"))) : Txt K mg :=
  { z_abs := PySem.W.mg_none_of X G z_abs,
    z_all := PySem.W.mg_none_of X G z_all,
    z_bool := PySem.W.mg_none_of X G z_bool,
    z_int := PySem.W.mg_none_of X G z_int,
    z_isinstance := PySem.W.mg_none_of X G z_isinstance,
    z_len := PySem.W.mg_none_of X G z_len,
    z_list := PySem.W.mg_none_of X G z_list,
    z_range := PySem.W.mg_none_of X G z_range,
    z_repr := PySem.W.mg_none_of X G z_repr,
    z_str := PySem.W.mg_none_of X G z_str,
    z_tuple := PySem.W.mg_none_of X G z_tuple,
    z_zip := PySem.W.mg_none_of X G z_zip,
    m_gcd := PySem.W.mg_of X G m_gcd,
    a_is_fraction := fnat_mk X G a_is_fraction l_is_fraction c_is_fraction k_is_fraction (fun _ _ _ _ _ _ us hl => match us, hl with | [_], _ => rfl),
    a_l_pen := fnat_mk X G a_l_pen l_l_pen c_l_pen k_l_pen (fun _ _ _ _ _ _ us hl => match us, hl with | [_], _ => rfl),
    a_l_draw := fnat_mk X G a_l_draw l_l_draw c_l_draw k_l_draw (fun _ _ _ _ _ _ us hl => match us, hl with | [_, _], _ => rfl),
    a_l_low := fnat_mk X G a_l_low l_l_low c_l_low k_l_low (fun _ _ _ _ _ _ us hl => match us, hl with | [_, _], _ => rfl),
    a_l_same := fnat_mk X G a_l_same l_l_same c_l_same k_l_same (fun _ _ _ _ _ _ us hl => match us, hl with | [_, _], _ => rfl),
    a_l_whole := fnat_mk X G a_l_whole l_l_whole c_l_whole k_l_whole (fun _ _ _ _ _ _ us hl => match us, hl with | [_], _ => rfl),
    a_l_number := fnat_mk X G a_l_number l_l_number c_l_number k_l_number (fun _ _ _ _ _ _ us hl => match us, hl with | [_], _ => rfl),
    a_l_due := fnat_mk X G a_l_due l_l_due c_l_due k_l_due (fun _ _ _ _ _ _ us hl => match us, hl with | [_], _ => rfl),
    a_l_things := fnat_mk X G a_l_things l_l_things c_l_things k_l_things (fun _ _ _ _ _ _ us hl => match us, hl with | [_, _], _ => rfl),
    a_law := fnat_mk X G a_law l_law c_law k_law (fun _ _ _ _ _ _ us hl => match us, hl with | [_], _ => rfl) }
theorem law_fn {P : Program} {w : World} {K : PySem.W.Frag} {mg : Str → Option Value} {fa : Addr} (T : Txt K mg) (hfa : mg "law" = some (.ref fa)) :
    ∃ fd : FuncData, (∀ (s : Shared) (v : Value), BindsTo s fd ⟨[v], []⟩ [("_law_script", v)]) ∧ ∀ base : Heap, K.In base → base.Ns mainGlobals mg → FnW (RoomG 14) P w K mg base (L2.CX P w) fa fd ["_law_script"] (spLaw K) := by
  obtain ⟨a, fd, F, g, bi⟩ := T.a_law
  cases hfa.symm.trans g
  obtain ⟨oc, od, kV, doc, pm, an, cdv, ct, osl, rfl, lk, hcd⟩ := F.ex
  exact ⟨_, fun s v => .of_eq rfl, fun base _ _ => law_ofW (ok_law T F) law_true⟩
end Lk03
open PySem PySem.W PyProof.Rows
set_option maxHeartbeats 0 in
theorem PySem.Challenge.cw_beatlanes_k03_what_is_a_fraction_holds : PySem.Challenge.rw_beatlanes_k03_what_is_a_fraction.Holds := by
  w_on; o_law; k_head; (case hw => w_witness2)
  k_fill
  refine DV.walk_ofW (l := PySem.Challenge.rw_beatlanes_k03_what_is_a_fraction) (n := 63) (x := "_law_script") (Φ := DV.RoomG 14) (CX := fun w => L2.CX (PySem.Challenge.rw_beatlanes_k03_what_is_a_fraction).prog w) (sp := fun w => DV.spLaw _) rfl (by decide) rfl (DV.roomG_caller ⟨rfl, by decide, by decide⟩) (fun w h Y => PySem.W.kIn_of Y) ?F (fun _ _ a ns hl ho hS => ⟨a, ns, rfl, hS, ho, hl, fun _ => rfl⟩) (fun _ _ _ _ _ h => DV.cx_none h)
  case F =>
    intro w mg fa h KX G hmg
    refine' Lk03.law_fn (Lk03.txt_mk KX G ?a_is_fraction ?l_is_fraction ?c_is_fraction ?k_is_fraction ?a_l_pen ?l_l_pen ?c_l_pen ?k_l_pen ?a_l_draw ?l_l_draw ?c_l_draw ?k_l_draw ?a_l_low ?l_l_low ?c_l_low ?k_l_low ?a_l_same ?l_l_same ?c_l_same ?k_l_same ?a_l_whole ?l_l_whole ?c_l_whole ?k_l_whole ?a_l_number ?l_l_number ?c_l_number ?k_l_number ?a_l_due ?l_l_due ?c_l_due ?k_l_due ?a_l_things ?l_l_things ?c_l_things ?k_l_things ?a_law ?l_law ?c_law ?k_law ?z_abs ?z_all ?z_bool ?z_int ?z_isinstance ?z_len ?z_list ?z_range ?z_repr ?z_str ?z_tuple ?z_zip ?m_gcd) hmg
    (case a_is_fraction => k_is)
    (case l_is_fraction => k_is)
    (case c_is_fraction => k_is)
    (case k_is_fraction => k_is)
    (case a_l_pen => k_is)
    (case l_l_pen => k_is)
    (case c_l_pen => k_is)
    (case k_l_pen => k_is)
    (case a_l_draw => k_is)
    (case l_l_draw => k_is)
    (case c_l_draw => k_is)
    (case k_l_draw => k_is)
    (case a_l_low => k_is)
    (case l_l_low => k_is)
    (case c_l_low => k_is)
    (case k_l_low => k_is)
    (case a_l_same => k_is)
    (case l_l_same => k_is)
    (case c_l_same => k_is)
    (case k_l_same => k_is)
    (case a_l_whole => k_is)
    (case l_l_whole => k_is)
    (case c_l_whole => k_is)
    (case k_l_whole => k_is)
    (case a_l_number => k_is)
    (case l_l_number => k_is)
    (case c_l_number => k_is)
    (case k_l_number => k_is)
    (case a_l_due => k_is)
    (case l_l_due => k_is)
    (case c_l_due => k_is)
    (case k_l_due => k_is)
    (case a_l_things => k_is)
    (case l_l_things => k_is)
    (case c_l_things => k_is)
    (case k_l_things => k_is)
    (case a_law => k_is)
    (case l_law => k_is)
    (case c_law => k_is)
    (case k_law => k_is)
    (case z_abs => k_is)
    (case z_all => k_is)
    (case z_bool => k_is)
    (case z_int => k_is)
    (case z_isinstance => k_is)
    (case z_len => k_is)
    (case z_list => k_is)
    (case z_range => k_is)
    (case z_repr => k_is)
    (case z_str => k_is)
    (case z_tuple => k_is)
    (case z_zip => k_is)
    (case m_gcd => k_is)
