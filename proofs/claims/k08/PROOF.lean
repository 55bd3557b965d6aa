import PyProof.Rows.All
import Wide.All
import OpenK.AllK
import Wide.FinOn
import HandS.ForMost
import HandS.ForExc
import HandS.Wide
import HandS.WideBits
import HandS.Gcd
import HandS.IsInst
import HandS.Zip
import HandS.TupAny
import HandS.TupLe
import HandS.TupMul
import HandS.Flow
import HandS.Style
import HandS.Small
import HandS.Conv
import HandS.SetKeys
import HandS.Deep
import HandS.StrMore
import KE.KRevSl
import PyProof.EqKinds
import HandS.ExcIs
import HandS.HotCalls
import HandS.More
import HandS.SetBool
import KE.GoesEnum
import PySem.Challenge.RW_beatlanes_k08_lengths_of_steps
noncomputable section
set_option Elab.async false
set_option linter.all false
set_option maxRecDepth 100000
namespace DV
open PySem PySem.Spec PyProof.Rows L2
/-- data: tuples, lists, dicts, instances by value; what is changed still by its number in the store; gl: what the module's name holds -/
inductive D where
  | non | bl (b : Bool) | int (i : Int) | str (s : Str) | tup (xs : List D) | lst (xs : List D) | dct (kvs : List (Key × D)) | dtt (kvs : List (List Key × D))
  | ins (c : Str) (ks : List Str) (vs : List D) | exc (c : Str) | ob (n : Nat) | ro (ns : List Int) | gl (x : Str)
/-- what the module's names hold, and the world -/
structure MG where
  f : Str → Option Value
  P : Program
  w : World
instance : CoeFun MG fun _ => Str → Option Value := ⟨MG.f⟩
end DV
namespace L2
abbrev Cx.M (X : Cx) : DV.MG := ⟨X.mg, X.prog, X.w⟩
end L2
namespace DV
open PySem PySem.Spec PyProof.Rows L2
/-- a mutable object -/
inductive O where
  | lst (xs : List D)
  | dic (kvs : List (Key × D))
  | dtt (kvs : List (List Key × D))
  | ins (c : Str) (ks : List Str) (vs : List D)
  | set (ks : List Key)
abbrev Sto := List O
abbrev Lc := List (Option D)
/-- a caught exception, tracked as just this object -/
def ExT (oe : Obj) (a : Addr) : HO := .ext fun h => h.get? a = some oe
/-- an exception of the class at C, without a dict of its own -/
def IsX (C : Addr) (oe : Obj) : Prop := Zc (.ref C) none oe ∧ ∃ vs, oe.data = .fields vs
/-- at a, out of the store's places, o stands for good -/
def Im (φ : List Addr) (H : Hp) (a : Addr) (o : HO) : Prop := a ∉ φ ∧ H a = some o
/-- is among them -/
def inK (ks : List Key) (k : Key) : Bool := ks.any fun j => decide (j = k)
/-- a dict whose keys are tuples, by its own object alone: its keys, where they stand, its values -/
def DTx (P : Program) (w : World) (a : Addr) (xs : List (List Key × Addr × Value)) : HO := .ext fun h => ∃ o es ep, h.get? a = some o ∧ o.ExactDict ∧ o.data = .dict es ep ∧ es.toList = xs.map (entryOfKey (tupleKind (mixKind P w)))
section
variable (K : PySem.W.Frag) (mg : MG)
/-- a tuple that stands for good -/
def ImT (φ : List Addr) (H : Hp) (a : Addr) (xs : List V) : Prop := Im φ H a (.tup xs) ∨ SqT K (fun _ => none) a xs
structure KeysT (φ : List Addr) (H : Hp) (a : Addr) (xs : List (List Key × Addr × Value)) : Prop where
  size : xs.length ≤ sizeLine
  ne : (a == sysModules) = false
  nd : (xs.map (·.1)).Nodup
  keys : ∀ x ∈ xs, ImT K φ H x.2.1 (x.1.map kV)
mutual
inductive Rp : List Addr → Hp → V → D → Prop
  | non {φ : List Addr} {H : Hp} : Rp φ H .non .non
  | bl {φ : List Addr} {H : Hp} (b : Bool) : Rp φ H (.bl b) (.bl b)
  | int {φ : List Addr} {H : Hp} (i : Int) : Rp φ H (.int i) (.int i)
  | str {φ : List Addr} {H : Hp} (s : Str) : Rp φ H (.str s) (.str s)
  | tup {φ : List Addr} {H : Hp} {a : Addr} {xs : List V} {ds : List D} : ImT K φ H a xs → Rps φ H xs ds → Rp φ H (.ref a) (.tup ds)
  | lst {φ : List Addr} {H : Hp} {a : Addr} {xs : List V} {ds : List D} : Im φ H a (.lst xs) → Rps φ H xs ds → Rp φ H (.ref a) (.lst ds)
  | dct {φ : List Addr} {H : Hp} {a : Addr} {ws : List (Key × V)} {kvs : List (Key × D)} : Im φ H a (.dK ws) → ws.map (·.1) = kvs.map (·.1) → Rps φ H (ws.map (·.2)) (kvs.map (·.2)) → Rp φ H (.ref a) (.dct kvs)
  | dtt {φ : List Addr} {H : Hp} {a : Addr} {xs : List (List Key × Addr × Value)} {ws : List V} {kvs : List (List Key × D)} : Im φ H a (DTx mg.P mg.w a xs) → KeysT K φ H a xs → xs.map (·.1) = kvs.map (·.1) → Vals ws (xs.map (·.2.2)) → Rps φ H ws (kvs.map (·.2)) → Rp φ H (.ref a) (.dtt kvs)
  | ins {φ : List Addr} {H : Hp} {a C dx : Addr} {c : Str} {ks : List Str} {vs : List V} {ds : List D} : mg c = some (.ref C) → Im φ H a (.ins C dx (ks.zip vs)) → ks.length = vs.length → Rps φ H vs ds → Rp φ H (.ref a) (.ins c ks ds)
  | exc {φ : List Addr} {H : Hp} {a C : Addr} {oe : Obj} {c : Str} : mg c = some (.ref C) → IsX C oe → Im φ H a (ExT oe a) → Rp φ H (.ref a) (.exc c)
  | ob {φ : List Addr} {H : Hp} {n : Nat} {a : Addr} : φ[n]? = some a → Rp φ H (.ref a) (.ob n)
  | ro {φ : List Addr} {H : Hp} {a : Addr} {ns : List Int} : ((∃ o, Im φ H a (.frz o (.lst (ns.map V.int)))) ∨ SqL K (fun _ => none) a (ns.map V.int)) → Rp φ H (.ref a) (.ro ns)
  | gl {φ : List Addr} {H : Hp} {a : Addr} {x : Str} : mg x = some (.ref a) → Rp φ H (.ref a) (.gl x)
inductive Rps : List Addr → Hp → List V → List D → Prop
  | nil {φ : List Addr} {H : Hp} : Rps φ H [] []
  | cons {φ : List Addr} {H : Hp} {v : V} {d : D} {vs : List V} {ds : List D} : Rp φ H v d → Rps φ H vs ds → Rps φ H (v :: vs) (d :: ds)
end
end
/-- how heaps grow: the store's places stay where they are, what they do not name stays as it is and unnamed -/
structure Ext (φ : List Addr) (H : Hp) (φ' : List Addr) (H' : Hp) : Prop where
  pre : ∀ (n : Nat) (a : Addr), φ[n]? = some a → φ'[n]? = some a
  imm : ∀ a o, a ∉ φ → H a = some o → a ∉ φ' ∧ H' a = some o
theorem Ext.rfl' {φ : List Addr} {H : Hp} : Ext φ H φ H := ⟨fun _ _ h => h, fun _ _ h q => ⟨h, q⟩⟩
theorem Ext.trans {φ φ1 φ2 : List Addr} {H H1 H2 : Hp} (a : Ext φ H φ1 H1) (b : Ext φ1 H1 φ2 H2) : Ext φ H φ2 H2 :=
  ⟨fun n x h => b.pre n x (a.pre n x h), fun x o h q => b.imm x o (a.imm x o h q).1 (a.imm x o h q).2⟩
section
variable {K : PySem.W.Frag} {mg : MG} {φ φ1 : List Addr} {H H1 : Hp}
theorem Ext.im (e : Ext φ H φ1 H1) {a : Addr} {o : HO} (h : Im φ H a o) : Im φ1 H1 a o := e.imm a o h.1 h.2
theorem ImT.mono (e : Ext φ H φ1 H1) {a : Addr} {xs : List V} : ImT K φ H a xs → ImT K φ1 H1 a xs
  | .inl h => .inl (e.im h)
  | .inr h => .inr h
theorem KeysT.mono (e : Ext φ H φ1 H1) {a : Addr} {xs : List (List Key × Addr × Value)} (k : KeysT K φ H a xs) : KeysT K φ1 H1 a xs := ⟨k.size, k.ne, k.nd, fun x hx => (k.keys x hx).mono e⟩
theorem ImT.sq {a : Addr} {xs : List V} : ImT K φ H a xs → SqT K H a xs
  | .inl h => .of h.2
  | .inr (.inl (.inl h)) => nomatch h
  | .inr (.inl (.inr ⟨_, h⟩)) => nomatch h
  | .inr (.inr h) => .inr h
mutual
theorem Rp.mono (e : Ext φ H φ1 H1) : ∀ {v : V} {d : D}, Rp K mg φ H v d → Rp K mg φ1 H1 v d
  | _, _, .non => .non
  | _, _, .bl b => .bl b
  | _, _, .int b => .int b
  | _, _, .str b => .str b
  | _, _, .tup h r => .tup (h.mono e) (Rps.mono e r)
  | _, _, .lst h r => .lst (e.im h) (Rps.mono e r)
  | _, _, .dct h k r => .dct (e.im h) k (Rps.mono e r)
  | _, _, .dtt h k q v r => .dtt (e.im h) (k.mono e) q v (Rps.mono e r)
  | _, _, .ins c h k r => .ins c (e.im h) k (Rps.mono e r)
  | _, _, .exc c x h => .exc c x (e.im h)
  | _, _, .ob h => .ob (e.pre _ _ h)
  | _, _, .ro (.inl ⟨o, h⟩) => .ro (.inl ⟨o, e.im h⟩)
  | _, _, .ro (.inr h) => .ro (.inr h)
  | _, _, .gl h => .gl h
theorem Rps.mono (e : Ext φ H φ1 H1) : ∀ {vs : List V} {ds : List D}, Rps K mg φ H vs ds → Rps K mg φ1 H1 vs ds
  | _, _, .nil => .nil
  | _, _, .cons a b => .cons (Rp.mono e a) (Rps.mono e b)
end
theorem Rps.length : ∀ {vs : List V} {ds : List D}, Rps K mg φ H vs ds → vs.length = ds.length
  | _, _, .nil => rfl
  | _, _, .cons a b => congrArg (· + 1) (Rps.length b)
theorem Rps.get : ∀ {vs : List V} {ds : List D} {i : Nat} {d : D}, Rps K mg φ H vs ds → ds[i]? = some d → ∃ v, vs[i]? = some v ∧ Rp K mg φ H v d
  | _, _, _, _, .nil, e => by simp at e
  | _, _, 0, _, .cons a b, e => by simp at e; subst e; exact ⟨_, rfl, a⟩
  | _, _, i + 1, d, .cons a b, e => by
    obtain ⟨v, h1, h2⟩ := Rps.get (i := i) b (by simpa using e)
    exact ⟨v, by simpa using h1, h2⟩
theorem Rps.append : ∀ {vs ws : List V} {ds es : List D}, Rps K mg φ H vs ds → Rps K mg φ H ws es → Rps K mg φ H (vs ++ ws) (ds ++ es)
  | _, _, _, _, .nil, h => h
  | _, _, _, _, .cons a b, h => .cons a (Rps.append b h)
theorem Rps.set {v : V} {d : D} (r : Rp K mg φ H v d) : ∀ {vs : List V} {ds : List D} (i : Nat), Rps K mg φ H vs ds → Rps K mg φ H (vs.set i v) (ds.set i d)
  | _, _, _, .nil => .nil
  | _, _, 0, .cons a b => .cons r b
  | _, _, i + 1, .cons a b => .cons a (Rps.set r i b)
theorem Rps.take : ∀ {vs : List V} {ds : List D} (i : Nat), Rps K mg φ H vs ds → Rps K mg φ H (vs.take i) (ds.take i)
  | _, _, 0, _ => .nil
  | _, _, _ + 1, .nil => .nil
  | _, _, i + 1, .cons a b => .cons a (Rps.take i b)
theorem Rps.drop : ∀ {vs : List V} {ds : List D} (i : Nat), Rps K mg φ H vs ds → Rps K mg φ H (vs.drop i) (ds.drop i)
  | _, _, 0, h => h
  | _, _, _ + 1, .nil => .nil
  | _, _, i + 1, .cons a b => Rps.drop i b
theorem Rps.reverse : ∀ {vs : List V} {ds : List D}, Rps K mg φ H vs ds → Rps K mg φ H vs.reverse ds.reverse
  | _, _, .nil => .nil
  | _, _, .cons a b => by
    rw [List.reverse_cons, List.reverse_cons]
    exact Rps.append (Rps.reverse b) (.cons a .nil)
theorem Rps.flatten_replicate {vs : List V} {ds : List D} (h : Rps K mg φ H vs ds) : ∀ n, Rps K mg φ H (List.replicate n vs).flatten (List.replicate n ds).flatten
  | 0 => .nil
  | n + 1 => by
    rw [List.replicate_succ, List.replicate_succ, List.flatten_cons, List.flatten_cons]
    exact h.append (Rps.flatten_replicate h n)
end
section
variable (K : PySem.W.Frag) (mg : MG)
/-- the object of the store at a -/
def Ro (φ : List Addr) (H : Hp) (a : Addr) : O → Prop
  | .lst ds => ∃ xs, H a = some (.lst xs) ∧ Rps K mg φ H xs ds
  | .dic kvs => ∃ ws, H a = some (.dK ws) ∧ ws.map (·.1) = kvs.map (·.1) ∧ Rps K mg φ H (ws.map (·.2)) (kvs.map (·.2))
  | .dtt kvs => ∃ xs ws, H a = some (DTx mg.P mg.w a xs) ∧ KeysT K φ H a xs ∧ xs.map (·.1) = kvs.map (·.1) ∧ Vals ws (xs.map (·.2.2)) ∧ Rps K mg φ H ws (kvs.map (·.2))
  | .set ks => ks.Nodup ∧ H a = some (SetK mg.P mg.w a (inK ks) ks.length)
  | .ins c ks ds => ∃ C dx vs, mg c = some (.ref C) ∧ H a = some (.ins C dx (ks.zip vs)) ∧ Im φ H dx (.own a) ∧ ks.length = vs.length ∧ Rps K mg φ H vs ds
/-- the store -/
structure Sr (φ : List Addr) (S : Sto) (H : Hp) : Prop where
  len : φ.length = S.length
  nd : φ.Nodup
  at' : ∀ (n : Nat) (o : O), S[n]? = some o → ∃ a, φ[n]? = some a ∧ Ro K mg φ H a o
/-- the local names -/
structure Er (φ : List Addr) (H : Hp) (σ : L2.St) (ρ : Lc) : Prop where
  len : σ.length = ρ.length
  at' : ∀ (i : Nat) (d : D), ρ[i]? = some (some d) → ∃ v, σ[i]? = some (some v) ∧ Rp K mg φ H v d
end
section
variable {K : PySem.W.Frag} {mg : MG}
theorem Er.mono {φ φ1 : List Addr} {H H1 : Hp} {σ : L2.St} {ρ : Lc} (e : Ext φ H φ1 H1) (h : Er K mg φ H σ ρ) : Er K mg φ1 H1 σ ρ :=
  ⟨h.len, fun i d q => let ⟨v, h1, h2⟩ := h.at' i d q; ⟨v, h1, h2.mono e⟩⟩
theorem Er.set {φ : List Addr} {H : Hp} {σ : L2.St} {ρ : Lc} {v : V} {d : D} (h : Er K mg φ H σ ρ) (r : Rp K mg φ H v d) (i : Nat) : Er K mg φ H (σ.set i (some v)) (ρ.set i (some d)) := by
  refine ⟨by rw [List.length_set, List.length_set]; exact h.len, fun j e q => ?_⟩
  rw [List.getElem?_set] at q ⊢
  by_cases hj : i = j
  · subst hj
    rw [if_pos rfl] at q ⊢
    by_cases hl : i < ρ.length
    · rw [if_pos hl] at q
      rw [if_pos (by rw [h.len]; exact hl)]
      cases q
      exact ⟨v, rfl, r⟩
    · rw [if_neg hl] at q; cases q
  · rw [if_neg hj] at q ⊢
    exact h.at' j e q
end
mutual
def frz (n : Nat) (S : Sto) : Nat → D → Option D
  | 0, _ => none
  | k + 1, .tup xs => (frzs n S k xs).map .tup
  | k + 1, .lst xs => (frzs n S k xs).map .lst
  | k + 1, .dct kvs => (frzs n S k (kvs.map (·.2))).map fun vs => .dct ((kvs.map (·.1)).zip vs)
  | k + 1, .dtt kvs => (frzs n S k (kvs.map (·.2))).map fun vs => .dtt ((kvs.map (·.1)).zip vs)
  | k + 1, .ins c ks vs => (frzs n S k vs).map (.ins c ks)
  | k + 1, .ob m => if m < n then some (.ob m) else match S[m]? with
    | some (.lst xs) => (frzs n S k xs).map .lst
    | some (.dic kvs) => (frzs n S k (kvs.map (·.2))).map fun vs => .dct ((kvs.map (·.1)).zip vs)
    | some (.dtt kvs) => (frzs n S k (kvs.map (·.2))).map fun vs => .dtt ((kvs.map (·.1)).zip vs)
    | some (.ins c ks vs) => (frzs n S k vs).map (.ins c ks)
    | some (.set _) => none
    | none => none
  | _ + 1, d => some d
def frzs (n : Nat) (S : Sto) : Nat → List D → Option (List D)
  | _, [] => some []
  | 0, _ :: _ => none
  | k + 1, d :: ds => match frz n S k d, frzs n S (k + 1) ds with
    | some e, some es => some (e :: es)
    | _, _ => none
end
def frzO (n : Nat) (S : Sto) (k : Nat) : O → Option O
  | .lst xs => (frzs n S k xs).map .lst
  | .dic kvs => (frzs n S k (kvs.map (·.2))).map fun vs => .dic ((kvs.map (·.1)).zip vs)
  | .dtt kvs => (frzs n S k (kvs.map (·.2))).map fun vs => .dtt ((kvs.map (·.1)).zip vs)
  | .ins c ks vs => (frzs n S k vs).map (.ins c ks)
  | .set ks => some (.set ks)
/-- a condition that is shown, never reckoned -/
noncomputable def gd (p : Prop) : Bool := @decide p (Classical.propDecidable p)
theorem gd_of {p : Prop} (h : p) : gd p = true := by unfold gd; exact @decide_eq_true p (Classical.propDecidable p) h
theorem of_gd {p : Prop} (h : gd p = true) : p := by unfold gd at h; exact @of_decide_eq_true p (Classical.propDecidable p) h
/-- the elder objects behind a call: what is as it was stays, what became otherwise names elder objects alone -/
noncomputable def dropOs (n : Nat) (S : Sto) (k : Nat) : List O → List O → Option (List O)
  | [], _ => some []
  | o :: os, o' :: os' => match (if gd (o' = o) then some o else frzO n S k o'), dropOs n S k os os' with
    | some e, some es => some (e :: es)
    | _, _ => none
  | _ :: _, [] => none
end DV
set_option Elab.async false
set_option linter.all false
set_option maxRecDepth 100000
namespace DV
open PySem PySem.Spec PyProof.Rows L2
section
variable {K : PySem.W.Frag} {mg : MG} {φ : List Addr} {H : Hp} {S : Sto} {n : Nat}
theorem Im.take {a : Addr} {o : HO} (h : Im φ H a o) : Im (φ.take n) H a o := ⟨fun z => h.1 (List.mem_of_mem_take z), h.2⟩
theorem nd_drop (nd : φ.Nodup) {m : Nat} {a : Addr} (hm : n ≤ m) (e : φ[m]? = some a) : a ∉ φ.take n := fun z => by
  obtain ⟨j, hj⟩ := List.getElem?_of_mem z
  rw [List.getElem?_take] at hj
  split at hj
  · rename_i hlt
    obtain ⟨l1, e1⟩ := List.getElem?_eq_some_iff.mp e
    obtain ⟨l2, e2⟩ := List.getElem?_eq_some_iff.mp hj
    rw [List.nodup_iff_pairwise_ne, List.pairwise_iff_getElem] at nd
    exact nd j m l2 l1 (by omega) (e2.trans e1.symm)
  · cases hj
theorem zip_fst {α β : Type} : ∀ {ks : List α} {vs : List β}, ks.length = vs.length → (ks.zip vs).map (·.1) = ks
  | [], [], _ => rfl
  | k :: ks, v :: vs, h => by simp [zip_fst (ks := ks) (vs := vs) (by simpa using h)]
theorem zip_snd {α β : Type} : ∀ {ks : List α} {vs : List β}, ks.length = vs.length → (ks.zip vs).map (·.2) = vs
  | [], [], _ => rfl
  | k :: ks, v :: vs, h => by simp [zip_snd (ks := ks) (vs := vs) (by simpa using h)]
theorem keys_zip {α β γ : Type} {ws : List (α × β)} {kvs : List (α × γ)} {ds : List γ} (h : ws.map (·.1) = kvs.map (·.1)) (l : (ws.map (·.2)).length = ds.length) : ws.map (·.1) = ((kvs.map (·.1)).zip ds).map (·.1) ∧ ((kvs.map (·.1)).zip ds).map (·.2) = ds := by
  have e := congrArg List.length h
  simp only [List.length_map] at e l
  exact ⟨by rw [zip_fst (by rw [List.length_map]; omega)]; exact h, zip_snd (by rw [List.length_map]; omega)⟩
theorem keys_zipT {γ : Type} {xs : List (List Key × Addr × Value)} {kvs : List (List Key × γ)} {ds : List γ} (h : xs.map (·.1) = kvs.map (·.1)) (l : ds.length = (xs.map (·.2.2)).length) : xs.map (·.1) = ((kvs.map (·.1)).zip ds).map (·.1) ∧ ((kvs.map (·.1)).zip ds).map (·.2) = ds := by
  have e := congrArg List.length h
  simp only [List.length_map] at e l
  exact ⟨by rw [zip_fst (by rw [List.length_map]; omega)]; exact h, zip_snd (by rw [List.length_map]; omega)⟩
theorem ImT.take {a : Addr} {xs : List V} : ImT K φ H a xs → ImT K (φ.take n) H a xs
  | .inl h => .inl h.take
  | .inr h => .inr h
theorem KeysT.take {a : Addr} {xs : List (List Key × Addr × Value)} (k : KeysT K φ H a xs) : KeysT K (φ.take n) H a xs := ⟨k.size, k.ne, k.nd, fun x hx => (k.keys x hx).take⟩
mutual
theorem frz_ok (s : Sr K mg φ S H) : ∀ (k : Nat) (v : V) (d e : D), Rp K mg φ H v d → frz n S k d = some e → Rp K mg (φ.take n) H v e
  | 0, _, _, _, _, h => by simp [frz] at h
  | k + 1, v, d, e, r, h => by
    cases d with
    | non => cases r; simp [frz] at h; subst h; exact .non
    | bl b => cases r; simp [frz] at h; subst h; exact .bl b
    | int b => cases r; simp [frz] at h; subst h; exact .int b
    | str b => cases r; simp [frz] at h; subst h; exact .str b
    | gl x => cases r with | gl q => simp [frz] at h; subst h; exact .gl q
    | exc c => cases r with | exc hc hx q => simp [frz] at h; subst h; exact .exc hc hx q.take
    | ro ns =>
      simp [frz] at h; subst h
      cases r with
      | ro q => exact .ro (q.imp (fun ⟨o, z⟩ => ⟨o, z.take⟩) id)
    | tup xs =>
      simp only [frz, Option.map_eq_some_iff] at h
      obtain ⟨es, h1, rfl⟩ := h
      cases r with
      | tup t rs => exact .tup (t.imp Im.take id) (frzs_ok s k _ _ _ rs h1)
    | lst xs =>
      simp only [frz, Option.map_eq_some_iff] at h
      obtain ⟨es, h1, rfl⟩ := h
      cases r with
      | lst t rs => exact .lst t.take (frzs_ok s k _ _ _ rs h1)
    | dct kvs =>
      simp only [frz, Option.map_eq_some_iff] at h
      obtain ⟨es, h1, rfl⟩ := h
      cases r with
      | dct t kk rs =>
        have r2 := frzs_ok s k _ _ _ rs h1
        obtain ⟨e1, e2⟩ := keys_zip kk r2.length
        exact .dct t.take e1 (by rw [e2]; exact r2)
    | dtt kvs =>
      simp only [frz, Option.map_eq_some_iff] at h
      obtain ⟨es, h1, rfl⟩ := h
      cases r with
      | dtt t kt kk vv rs =>
        have r2 := frzs_ok s k _ _ _ rs h1
        obtain ⟨e1, e2⟩ := keys_zipT kk (by rw [← r2.length]; exact vv.length)
        exact .dtt t.take kt.take e1 vv (by rw [e2]; exact r2)
    | ins c ks vs =>
      simp only [frz, Option.map_eq_some_iff] at h
      obtain ⟨es, h1, rfl⟩ := h
      cases r with
      | ins hc t kk rs => exact .ins hc t.take kk (frzs_ok s k _ _ _ rs h1)
    | ob m =>
      simp only [frz] at h
      cases r with
      | ob hm =>
      split at h
      · rename_i hlt
        cases h
        exact .ob (by rw [List.getElem?_take, if_pos hlt]; exact hm)
      · rename_i hge
        have nt := nd_drop (n := n) s.nd (by omega) hm
        split at h
        · rename_i xs hx
          simp only [Option.map_eq_some_iff] at h
          obtain ⟨es, h1, rfl⟩ := h
          obtain ⟨a, ha, ws, g, rs⟩ := s.at' _ _ hx
          rw [hm] at ha; cases ha
          exact .lst ⟨nt, g⟩ (frzs_ok s k _ _ _ rs h1)
        · rename_i kvs hx
          simp only [Option.map_eq_some_iff] at h
          obtain ⟨es, h1, rfl⟩ := h
          obtain ⟨a, ha, ws, g, kk, rs⟩ := s.at' _ _ hx
          rw [hm] at ha; cases ha
          have r2 := frzs_ok s k _ _ _ rs h1
          obtain ⟨e1, e2⟩ := keys_zip kk r2.length
          exact .dct ⟨nt, g⟩ e1 (by rw [e2]; exact r2)
        · rename_i kvs hx
          simp only [Option.map_eq_some_iff] at h
          obtain ⟨es, h1, rfl⟩ := h
          obtain ⟨a, ha, xs, ws, g, kt, kk, vv, rs⟩ := s.at' _ _ hx
          rw [hm] at ha; cases ha
          have r2 := frzs_ok s k _ _ _ rs h1
          obtain ⟨e1, e2⟩ := keys_zipT kk (by rw [← r2.length]; exact vv.length)
          exact .dtt ⟨nt, g⟩ kt.take e1 vv (by rw [e2]; exact r2)
        · rename_i c ks vs hx
          simp only [Option.map_eq_some_iff] at h
          obtain ⟨es, h1, rfl⟩ := h
          obtain ⟨a, ha, C, dx, us, hc, g, _, kk, rs⟩ := s.at' _ _ hx
          rw [hm] at ha; cases ha
          exact .ins hc ⟨nt, g⟩ kk (frzs_ok s k _ _ _ rs h1)
        · cases h
        · cases h
theorem frzs_ok (s : Sr K mg φ S H) : ∀ (k : Nat) (vs : List V) (ds es : List D), Rps K mg φ H vs ds → frzs n S k ds = some es → Rps K mg (φ.take n) H vs es
  | k, _, [], es, r, h => by
    cases r
    cases k <;> (simp [frzs] at h; subst h; exact .nil)
  | 0, _, _ :: _, _, _, h => by simp [frzs] at h
  | k + 1, vs, d :: ds, es, r, h => by
    cases r with
    | cons r1 r2 =>
      simp only [frzs] at h
      split at h
      · rename_i e es' h1 h2
        cases h
        exact .cons (frz_ok s k _ _ _ r1 h1) (frzs_ok s (k + 1) _ _ _ r2 h2)
      · cases h
end
theorem frzO_ok (s : Sr K mg φ S H) {k : Nat} {a : Addr} : ∀ {o e : O}, Ro K mg φ H a o → frzO n S k o = some e → Ro K mg (φ.take n) H a e
  | .lst xs, e, ⟨ws, g, r⟩, h => by
    simp only [frzO, Option.map_eq_some_iff] at h
    obtain ⟨es, h1, rfl⟩ := h
    exact ⟨ws, g, frzs_ok s k _ _ _ r h1⟩
  | .dic xs, e, ⟨ws, g, kk, r⟩, h => by
    simp only [frzO, Option.map_eq_some_iff] at h
    obtain ⟨es, h1, rfl⟩ := h
    have r2 := frzs_ok s k _ _ _ r h1
    obtain ⟨e1, e2⟩ := keys_zip kk r2.length
    exact ⟨ws, g, e1, by rw [e2]; exact r2⟩
  | .dtt _, e, ⟨xs, ws, g, kt, kk, vv, r⟩, h => by
    simp only [frzO, Option.map_eq_some_iff] at h
    obtain ⟨es, h1, rfl⟩ := h
    have r2 := frzs_ok s k _ _ _ r h1
    obtain ⟨e1, e2⟩ := keys_zipT kk (by rw [← r2.length]; exact vv.length)
    exact ⟨xs, ws, g, kt.take, e1, vv, by rw [e2]; exact r2⟩
  | .set ks, e, q, h => by
    simp only [frzO, Option.some.injEq] at h
    subst h
    exact q
  | .ins c ks vs, e, ⟨C, dx, us, hc, g, hd, kk, r⟩, h => by
    simp only [frzO, Option.map_eq_some_iff] at h
    obtain ⟨es, h1, rfl⟩ := h
    exact ⟨C, dx, us, hc, g, hd.take, kk, frzs_ok s k _ _ _ r h1⟩
/-- the caller's places are the callee's first ones -/
theorem Ext.take_eq {φ1 : List Addr} {H1 : Hp} (e : Ext φ H φ1 H1) : φ1.take φ.length = φ := by
  refine List.ext_getElem? fun i => ?_
  rw [List.getElem?_take]
  split
  · rename_i hlt
    rw [List.getElem?_eq_getElem hlt]
    exact e.pre i _ (List.getElem?_eq_getElem hlt)
  · rename_i hge
    exact (List.getElem?_eq_none_iff.mpr (by omega)).symm
theorem Ext.back {φ1 : List Addr} {H1 : Hp} (e : Ext φ H φ1 H1) : Ext φ H φ H1 := ⟨fun _ _ h => h, fun a o h q => ⟨h, (e.imm a o h q).2⟩⟩
end
section
variable {K : PySem.W.Frag} {mg : MG} {φ φ1 : List Addr} {H0 H1 : Hp} {S0 S1 : Sto}
theorem Im.back (q : φ1.take φ.length = φ) {a : Addr} {o : HO} (h : Im φ1 H1 a o) : Im φ H1 a o := by
  rw [← q]; exact h.take
theorem at_back (q : φ1.take φ.length = φ) {n : Nat} {a b : Addr} (h0 : φ[n]? = some a) (h1 : φ1[n]? = some b) : φ[n]? = some b := by
  have hl := (List.getElem?_eq_some_iff.mp h0).1
  rw [← q, List.getElem?_take, if_pos hl]
  exact h1
mutual
theorem Rp.back (q : φ1.take φ.length = φ) : ∀ {u v : V} {d : D}, Rp K mg φ H0 u d → Rp K mg φ1 H1 v d → Rp K mg φ H1 v d
  | _, _, _, .non, .non => .non
  | _, _, _, .bl b, .bl _ => .bl b
  | _, _, _, .int b, .int _ => .int b
  | _, _, _, .str b, .str _ => .str b
  | _, _, _, .tup _ r, .tup t s => .tup (t.imp (Im.back q) id) (Rps.back q r s)
  | _, _, _, .lst _ r, .lst t s => .lst (Im.back q t) (Rps.back q r s)
  | _, _, _, .dct _ _ r, .dct t k s => .dct (Im.back q t) k (Rps.back q r s)
  | _, _, _, .dtt _ _ _ _ r, .dtt t kt k v s => .dtt (Im.back q t) ⟨kt.size, kt.ne, kt.nd, fun x hx => (kt.keys x hx).imp (Im.back q) id⟩ k v (Rps.back q r s)
  | _, _, _, .ins _ _ _ r, .ins c t k s => .ins c (Im.back q t) k (Rps.back q r s)
  | _, _, _, .exc _ _ _, .exc c x t => .exc c x (Im.back q t)
  | _, _, _, .ob h, .ob h1 => .ob (at_back q h h1)
  | _, _, _, .ro _, .ro h => .ro (h.imp (fun ⟨o, z⟩ => ⟨o, Im.back q z⟩) id)
  | _, _, _, .gl _, .gl h => .gl h
theorem Rps.back (q : φ1.take φ.length = φ) : ∀ {us vs : List V} {ds : List D}, Rps K mg φ H0 us ds → Rps K mg φ1 H1 vs ds → Rps K mg φ H1 vs ds
  | _, _, _, .nil, .nil => .nil
  | _, _, _, .cons a b, .cons c d => .cons (Rp.back q a c) (Rps.back q b d)
end
theorem Ro.back (q : φ1.take φ.length = φ) {a : Addr} : ∀ {o : O}, Ro K mg φ H0 a o → Ro K mg φ1 H1 a o → Ro K mg φ H1 a o
  | .lst _, ⟨_, _, r⟩, ⟨ws, g, r1⟩ => ⟨ws, g, Rps.back q r r1⟩
  | .dic _, ⟨_, _, _, r⟩, ⟨ws, g, k, r1⟩ => ⟨ws, g, k, Rps.back q r r1⟩
  | .dtt _, ⟨_, _, _, _, _, _, r⟩, ⟨xs, ws, g, kt, k, v, r1⟩ => ⟨xs, ws, g, ⟨kt.size, kt.ne, kt.nd, fun x hx => (kt.keys x hx).imp (Im.back q) id⟩, k, v, Rps.back q r r1⟩
  | .ins _ _ _, ⟨_, _, _, _, _, _, _, r⟩, ⟨C, dx, us, hc, g, hd, k, r1⟩ => ⟨C, dx, us, hc, g, Im.back q hd, k, Rps.back q r r1⟩
  | .set _, _, h => h
theorem dropOs_get {n k : Nat} {S : Sto} : ∀ {os os' es : List O}, dropOs n S k os os' = some es → es.length = os.length ∧ ∀ (i : Nat) (e : O), es[i]? = some e → ∃ o o', os[i]? = some o ∧ os'[i]? = some o' ∧ ((o' = o ∧ e = o) ∨ frzO n S k o' = some e)
  | [], _, es, h => by
    simp only [dropOs, Option.some.injEq] at h
    subst h
    exact ⟨rfl, fun i e q => by simp at q⟩
  | _ :: _, [], es, h => by simp [dropOs] at h
  | o :: os, o' :: os', es, h => by
    simp only [dropOs] at h
    split at h
    · rename_i e1 es1 h1 h2
      cases h
      obtain ⟨l, g⟩ := dropOs_get h2
      refine ⟨by rw [List.length_cons, List.length_cons, l], fun i e q => ?_⟩
      cases i with
      | zero =>
        simp at q; subst q
        refine ⟨o, o', rfl, rfl, ?_⟩
        split at h1
        · rename_i hg
          cases h1
          exact .inl ⟨of_gd hg, rfl⟩
        · exact .inr h1
      | succ i => exact let ⟨u, u', a, b, c⟩ := g i e (by simpa using q); ⟨u, u', by simpa using a, by simpa using b, c⟩
    · cases h
/-- behind a call: the value and the store as the caller has them -/
theorem call_end {T : Sto} {v : V} {d e : D} {k j : Nat} (s0 : Sr K mg φ S0 H0) (x : Ext φ H0 φ1 H1) (s : Sr K mg φ1 S1 H1) (r : Rp K mg φ1 H1 v d)
    (h1 : frz S0.length S1 k d = some e) (h2 : dropOs S0.length S1 j S0 S1 = some T) : Ext φ H0 φ H1 ∧ Sr K mg φ T H1 ∧ Rp K mg φ H1 v e := by
  have q : φ1.take φ.length = φ := x.take_eq
  have g1 := frz_ok (n := S0.length) s k v d e r h1
  rw [← s0.len, q] at g1
  obtain ⟨l, g⟩ := dropOs_get h2
  refine ⟨x.back, ⟨by rw [l, s0.len], s0.nd, fun i o hi => ?_⟩, g1⟩
  obtain ⟨o0, o1, e0, e1, z⟩ := g i o hi
  obtain ⟨a, ha, r0⟩ := s0.at' i o0 e0
  obtain ⟨b, hb, r1⟩ := s.at' i o1 e1
  obtain rfl : a = b := by have := x.pre i a ha; rw [hb] at this; exact (Option.some.inj this).symm
  refine ⟨a, ha, ?_⟩
  rcases z with ⟨rfl, rfl⟩ | z
  · exact r0.back q r1
  · have := frzO_ok (n := S0.length) s r1 z
    rw [← s0.len, q] at this
    exact this
end
end DV
set_option Elab.async false
set_option linter.all false
set_option maxRecDepth 100000
namespace DV
open PySem PySem.Spec PyProof.Rows L2
inductive Res (α : Type) where
  | ok (a : α) (S : Sto)
  | ex (c : Str) (S : Sto)
  | no
def Res.bind {α β : Type} (r : Res α) (k : α → Sto → Res β) : Res β :=
  match r with
  | .ok a S => k a S
  | .ex c S => .ex c S
  | .no => .no
abbrev Rl (α β : Type) := List Addr → Hp → β → α → Prop
abbrev RB : Rl Bool Bool := fun _ _ x b => x = b
/-- the class of this name -/
def ClsAt (mg : MG) (c : Str) (Q : Value → Prop) : Prop := ∃ C, mg c = some (.ref C) ∧ Q (.ref C)
theorem ClsAt.imp {mg : MG} {c : Str} {Q Q' : Value → Prop} (h : ∀ v, Q v → Q' v) : ClsAt mg c Q → ClsAt mg c Q' := fun ⟨C, e, q⟩ => ⟨C, e, h _ q⟩
section
variable {α β : Type} (R : Rl α β) (K : PySem.W.Frag) (mg : MG) (W : WX)
def post (φ : List Addr) (H : Hp) (σ : L2.St) (Q : β → Hp → Prop) : Res α → Prop
  | .ok a S' => ∀ φ' H' x, Ext φ H φ' H' → Sr K mg φ' S' H' → R φ' H' x a → Q x H'
  | .ex c S' => ClsAt mg c fun cls => ∀ φ' H', Ext φ H φ' H' → Sr K mg φ' S' H' → W cls none σ H'
  | .no => False
def lf (f : Lc → Sto → Res α) : L2.St → Hp → (β → Hp → Prop) → Prop := fun σ H Q => ∃ φ ρ S, Er K mg φ H σ ρ ∧ Sr K mg φ S H ∧ post R K mg W φ H σ Q (f ρ S)
end
section
variable {α β : Type} {R : Rl α β} {K : PySem.W.Frag} {mg : MG} {W : WX} {φ φ1 : List Addr} {H H1 : Hp} {σ : L2.St}
theorem post.mono {Q : β → Hp → Prop} (e : Ext φ H φ1 H1) : ∀ {r : Res α}, post R K mg W φ H σ Q r → post R K mg W φ1 H1 σ Q r
  | .ok _ _, h => fun φ' H' x e' => h φ' H' x (e.trans e')
  | .ex _ _, ⟨C, e1, q⟩ => ⟨C, e1, fun φ' H' e' => q φ' H' (e.trans e')⟩
  | .no, h => h
theorem post.imp {Q Q' : β → Hp → Prop} (hq : ∀ x H, Q x H → Q' x H) : ∀ {r : Res α}, post R K mg W φ H σ Q r → post R K mg W φ H σ Q' r
  | .ok _ _, h => fun φ' H' x e' s r => hq _ _ (h φ' H' x e' s r)
  | .ex _ _, h => h
  | .no, h => h
theorem lf.imp {Q Q' : β → Hp → Prop} {f : Lc → Sto → Res α} (hq : ∀ x H, Q x H → Q' x H) (h : lf R K mg W f σ H Q) : lf R K mg W f σ H Q' :=
  let ⟨φ, ρ, S, er, sr, p⟩ := h
  ⟨φ, ρ, S, er, sr, p.imp hq⟩
/-- THE STEP: the first part is run, then what is left -/
theorem lf.bind {γ δ : Type} {R2 : Rl γ δ} {Q : δ → Hp → Prop} {f : Lc → Sto → Res α} {k : α → Sto → Res γ} {ρ : Lc} {S : Sto} (er : Er K mg φ H σ ρ) (sr : Sr K mg φ S H) (p : post R2 K mg W φ H σ Q ((f ρ S).bind k)) :
    lf R K mg W f σ H fun x H1 => ∃ φ1 S1 a, Ext φ H φ1 H1 ∧ Sr K mg φ1 S1 H1 ∧ R φ1 H1 x a ∧ post R2 K mg W φ1 H1 σ Q (k a S1) := by
  refine ⟨φ, ρ, S, er, sr, ?_⟩
  cases e : f ρ S with
  | ok a S1 =>
    rw [e] at p
    exact fun φ' H' x e' s r => ⟨φ', S1, a, e', s, r, post.mono e' p⟩
  | ex c S1 => rw [e] at p; exact p
  | no => rw [e] at p; exact p
end
/-- an expression, arguments, a test, as functions of data -/
abbrev lE (K : PySem.W.Frag) (mg : MG) (W : WX) (f : Lc → Sto → Res D) : TE := lf (Rp K mg) K mg W f
abbrev lA (K : PySem.W.Frag) (mg : MG) (W : WX) (f : Lc → Sto → Res (List D)) : TA := lf (Rps K mg) K mg W f
abbrev lT (K : PySem.W.Frag) (mg : MG) (W : WX) (f : Lc → Sto → Res Bool) : TT := lf RB K mg W f
abbrev EF := Lc → Sto → Res D
abbrev AF := Lc → Sto → Res (List D)
abbrev TF := Lc → Sto → Res Bool
def DE (X : Cx) (W : WX) (e : Expr) (f : EF) : Prop := PE X e (lE X.K X.M W f)
def DA (X : Cx) (W : WX) (es : List Expr) (f : AF) : Prop := PA X es (lA X.K X.M W f)
def DT (X : Cx) (W : WX) (e : Expr) (f : TF) : Prop := PT X e (lT X.K X.M W f)
theorem pe_wk {X : Cx} {e : Expr} {t t' : TE} (h : PE X e t) (q : ∀ σ H Q, t' σ H Q → t σ H Q) : PE X e t' := ⟨fun pins s σ H Q I z => h.run pins s σ H Q I (q σ H Q z)⟩
theorem pa_wk {X : Cx} {e : List Expr} {t t' : TA} (h : PA X e t) (q : ∀ σ H Q, t' σ H Q → t σ H Q) : PA X e t' := ⟨fun pos pins s σ H Q I z => h.run pos pins s σ H Q I (q σ H Q z)⟩
theorem pt_wk {X : Cx} {e : Expr} {t t' : TT} (h : PT X e t) (q : ∀ σ H Q, t' σ H Q → t σ H Q) : PT X e t' := ⟨fun pins s σ H Q I z => h.run pins s σ H Q I (q σ H Q z)⟩
theorem ps_wk {X : Cx} {e : Stmt} {t t' : TS} (h : PS X e t) (q : ∀ D σ H, t' D σ H → t D σ H) : PS X e t' := ⟨fun pins s σ H Q I z => h.run pins s σ H Q I (q Q σ H z)⟩
theorem pss_wk {X : Cx} {e : List Stmt} {t t' : TS} (h : PSs X e t) (q : ∀ D σ H, t' D σ H → t D σ H) : PSs X e t' := ⟨fun pins s σ H Q I z => h.run pins s σ H Q I (q Q σ H z)⟩
theorem nd_inj {α : Type} {l : List α} (h : l.Nodup) {i j : Nat} (hi : i < l.length) (hj : j < l.length) (e : l[i] = l[j]) : i = j := by
  rw [List.nodup_iff_pairwise_ne, List.pairwise_iff_getElem] at h
  rcases Nat.lt_trichotomy i j with c | c | c
  · exact absurd e (h i j hi hj c)
  · exact c
  · exact absurd e.symm (h j i hj hi c)
section
variable {K : PySem.W.Frag} {mg : MG} {φ : List Addr} {H : Hp} {S : Sto}
theorem Ext.new {p : Addr} {o : HO} (hp : H p = none) : Ext φ H φ (upd H p o) :=
  ⟨fun _ _ h => h, fun a u h q => ⟨h, by rw [upd_ne (ne_of_none q hp)]; exact q⟩⟩
theorem Ext.newSnoc {p : Addr} {o : HO} (hp : H p = none) : Ext φ H (φ ++ [p]) (upd H p o) :=
  ⟨fun n a h => by rw [List.getElem?_append_left (List.getElem?_eq_some_iff.mp h).1]; exact h, fun a u h q => by
    have z := ne_of_none q hp
    exact ⟨fun m => (List.mem_append.mp m).elim h fun w => z (by simpa using w), by rw [upd_ne z]; exact q⟩⟩
theorem Ext.put {n : Nat} {a : Addr} {o : HO} (hn : φ[n]? = some a) : Ext φ H φ (upd H a o) :=
  ⟨fun _ _ h => h, fun b u h q => ⟨h, by rw [upd_ne (fun z => h (by rw [z]; exact List.mem_of_getElem? hn))]; exact q⟩⟩
theorem Ro.mono {φ1 : List Addr} {H1 : Hp} {a : Addr} (e : Ext φ H φ1 H1) (h : H1 a = H a) : ∀ {o : O}, Ro K mg φ H a o → Ro K mg φ1 H1 a o
  | .lst _, ⟨xs, h1, r⟩ => ⟨xs, by rw [h]; exact h1, r.mono e⟩
  | .dic _, ⟨xs, h1, k, r⟩ => ⟨xs, by rw [h]; exact h1, k, r.mono e⟩
  | .dtt _, ⟨xs, ws, h1, kt, k, v, r⟩ => ⟨xs, ws, by rw [h]; exact h1, kt.mono e, k, v, r.mono e⟩
  | .set _, ⟨n, h1⟩ => ⟨n, by rw [h]; exact h1⟩
  | .ins _ _ _, ⟨C, dx, vs, hc, h1, hd, k, r⟩ => ⟨C, dx, vs, hc, by rw [h]; exact h1, e.im hd, k, r.mono e⟩
theorem Ro.some {a : Addr} : ∀ {o : O}, Ro K mg φ H a o → ∃ u, H a = some u ∧ Mut (H a)
  | .lst _, ⟨xs, h1, r⟩ => ⟨_, h1, by rw [h1]; trivial⟩
  | .dic _, ⟨xs, h1, k, r⟩ => ⟨_, h1, by rw [h1]; trivial⟩
  | .dtt _, ⟨xs, ws, h1, kt, k, v, r⟩ => ⟨_, h1, by rw [h1]; trivial⟩
  | .set _, ⟨n, h1⟩ => ⟨_, h1, by rw [h1]; trivial⟩
  | .ins _ _ _, ⟨C, dx, vs, hc, h1, _⟩ => ⟨_, h1, by rw [h1]; trivial⟩
theorem Sr.mem (s : Sr K mg φ S H) {p : Addr} (h : p ∈ φ) : ∃ u, H p = some u := by
  obtain ⟨n, hn⟩ := List.getElem?_of_mem h
  have hl : n < S.length := by rw [← s.len]; exact (List.getElem?_eq_some_iff.mp hn).1
  obtain ⟨a, h1, r⟩ := s.at' n _ (List.getElem?_eq_getElem hl)
  rw [hn] at h1
  cases h1
  obtain ⟨u, h2, _⟩ := r.some
  exact ⟨u, h2⟩
theorem Sr.fresh (s : Sr K mg φ S H) {p : Addr} (hp : H p = none) : p ∉ φ := fun h => by
  obtain ⟨u, h2⟩ := s.mem h
  rw [hp] at h2; cases h2
/-- a new object that stands for good -/
theorem Sr.im (s : Sr K mg φ S H) {p : Addr} {o : HO} (hp : H p = none) : Im φ (upd H p o) p o := ⟨s.fresh hp, upd_same⟩
/-- a new object that the store does not name -/
theorem Sr.new (s : Sr K mg φ S H) {p : Addr} {o : HO} (hp : H p = none) : Sr K mg φ S (upd H p o) :=
  ⟨s.len, s.nd, fun n o' h => by
    obtain ⟨a, h1, r⟩ := s.at' n o' h
    exact ⟨a, h1, r.mono (Ext.new hp) (upd_ne fun z => by subst z; exact s.fresh hp (List.mem_of_getElem? h1))⟩⟩
/-- a new object of the store -/
theorem Sr.snoc (s : Sr K mg φ S H) {p : Addr} {o : HO} {u : O} (hp : H p = none) (r : Ro K mg (φ ++ [p]) (upd H p o) p u) : Sr K mg (φ ++ [p]) (S ++ [u]) (upd H p o) := by
  refine ⟨by rw [List.length_append, List.length_append, s.len]; rfl, ?_, fun n o' h => ?_⟩
  · rw [List.nodup_append]
    exact ⟨s.nd, by simp, fun a ha b hb => by
      have : b = p := by simpa using hb
      subst this
      rintro rfl
      exact s.fresh hp ha⟩
  · by_cases hn : n < S.length
    · rw [List.getElem?_append_left hn] at h
      obtain ⟨a, h1, r1⟩ := s.at' n o' h
      refine ⟨a, by rw [List.getElem?_append_left (by rw [s.len]; exact hn)]; exact h1, r1.mono (Ext.newSnoc hp) (upd_ne fun z => by subst z; exact s.fresh hp (List.mem_of_getElem? h1))⟩
    · rw [List.getElem?_append_right (by omega)] at h
      have h0 : n - S.length = 0 := by
        have := (List.getElem?_eq_some_iff.mp h).1
        simp at this
        omega
      rw [h0] at h
      simp at h
      subst h
      refine ⟨p, ?_, r⟩
      rw [List.getElem?_append_right (by rw [s.len]; omega), s.len, h0]
      rfl
/-- an object of the store is changed -/
theorem Sr.put (s : Sr K mg φ S H) {n : Nat} {a : Addr} {o : HO} {u : O} (hn : φ[n]? = some a) (r : Ro K mg φ (upd H a o) a u) : Sr K mg φ (S.set n u) (upd H a o) := by
  have hl : n < S.length := by rw [← s.len]; exact (List.getElem?_eq_some_iff.mp hn).1
  refine ⟨by rw [List.length_set]; exact s.len, s.nd, fun m o' h => ?_⟩
  rw [List.getElem?_set] at h
  by_cases hm' : n = m
  · subst hm'
    rw [if_pos rfl, if_pos hl] at h
    cases h
    exact ⟨a, hn, r⟩
  · rw [if_neg hm'] at h
    obtain ⟨b, h1, r1⟩ := s.at' m o' h
    refine ⟨b, h1, r1.mono (Ext.put hn) (upd_ne fun z => hm' ?_)⟩
    subst z
    obtain ⟨l1, e1⟩ := List.getElem?_eq_some_iff.mp hn
    obtain ⟨l2, e2⟩ := List.getElem?_eq_some_iff.mp h1
    exact (nd_inj s.nd l1 l2 (e1.trans e2.symm))
theorem Sr.lst (s : Sr K mg φ S H) {n : Nat} {a : Addr} {ds : List D} (hn : φ[n]? = some a) (h : S[n]? = some (.lst ds)) : ∃ xs, H a = some (.lst xs) ∧ Rps K mg φ H xs ds := by
  obtain ⟨b, h1, r1⟩ := s.at' n _ h
  rw [hn] at h1; cases h1
  exact r1
theorem at_snoc (s : Sr K mg φ S H) (q : Addr) : (φ ++ [q])[S.length]? = some q := by
  rw [List.getElem?_append_right (by rw [s.len]; exact Nat.le_refl _), s.len, Nat.sub_self]; rfl
/-- a list, by value or of the store -/
def lstOf : D → Sto → Option (List D)
  | .lst xs, _ => some xs
  | .ob n, S => match S[n]? with | some (.lst xs) => some xs | _ => none
  | _, _ => none
theorem lstOf_ok (s : Sr K mg φ S H) {v : V} {d : D} {ds : List D} (r : Rp K mg φ H v d) (h : lstOf d S = some ds) : ∃ a xs, v = .ref a ∧ H a = some (.lst xs) ∧ Rps K mg φ H xs ds := by
  unfold lstOf at h
  split at h
  · cases h
    cases r with
    | lst t rs => exact ⟨_, _, rfl, t.2, rs⟩
  · split at h
    · rename_i xs e
      cases h
      cases r with
      | ob hn =>
        obtain ⟨us, g, rs⟩ := s.lst hn e
        exact ⟨_, us, rfl, g, rs⟩
    · cases h
  · cases h
/-- a list or a tuple -/
def seqOf : D → Sto → Option (List D)
  | .tup xs, _ => some xs
  | d, S => lstOf d S
theorem seqOf_ok (s : Sr K mg φ S H) {v : V} {d : D} {ds : List D} (r : Rp K mg φ H v d) (h : seqOf d S = some ds) : ∃ a xs, v = .ref a ∧ (SqL K H a xs ∨ SqT K H a xs) ∧ Rps K mg φ H xs ds := by
  cases d with
  | tup xs =>
    cases h
    cases r with
    | tup t rs => exact ⟨_, _, rfl, .inr t.sq, rs⟩
  | _ => exact (lstOf_ok s r h).imp fun a ⟨xs, e, q, rs⟩ => ⟨xs, e, .inl (.of q), rs⟩
end
end DV
set_option Elab.async false
set_option linter.all false
set_option maxRecDepth 100000
namespace DV
open PySem PySem.Spec PyProof.Rows L2
def eVar (i : Nat) : EF := fun ρ S => match ρ[i]? with | some (some d) => .ok d S | _ => .no
def eC (d : D) : EF := fun _ S => .ok d S
section
variable {X : Cx} {W : WX}
theorem de_var {i : Nat} {x : Str} {pos : Pos} (h : PE X (.Name x pos) (tVar i)) : DE X W (.Name x pos) (eVar i) := pe_wk h fun σ H Q z => by
  obtain ⟨φ, ρ, S, er, sr, p⟩ := z
  unfold eVar at p
  cases e : ρ[i]? with
  | none => rw [e] at p; exact p.elim
  | some o =>
    rw [e] at p
    cases o with
    | none => exact p.elim
    | some d =>
      obtain ⟨v, h1, h2⟩ := er.at' i d e
      exact ⟨v, h1, p φ H v Ext.rfl' sr h2⟩
theorem de_con {e : Expr} {v : V} {d : D} (h : PE X e (tC v)) (r : ∀ φ H, Rp X.K X.M φ H v d) : DE X W e (eC d) := pe_wk h fun σ H Q ⟨φ, ρ, S, er, sr, p⟩ => p φ H v Ext.rfl' sr (r φ H)
theorem de_int {i j pos} : DE X W (.Constant (.int i) j pos) (eC (.int i)) := de_con pe_int fun _ _ => .int i
theorem de_bl {i j pos} : DE X W (.Constant (.bool i) j pos) (eC (.bl i)) := de_con pe_bl fun _ _ => .bl i
theorem de_str {i j pos} : DE X W (.Constant (.str i) j pos) (eC (.str i)) := de_con pe_str fun _ _ => .str i
theorem de_non {j pos} : DE X W (.Constant .none j pos) (eC .non) := de_con pe_non fun _ _ => .non
end
abbrev OF := D → D → Sto → Res D
def eOp (o : OF) (a b : EF) : EF := fun ρ S => (a ρ S).bind fun x S1 => (b ρ S1).bind fun y S2 => o x y S2
/-- the hand layer's operator does at least what the function says -/
def Op2 (K : PySem.W.Frag) (mg : MG) (r : R2) (o : OF) : Prop := ∀ (W : WX) (φ : List Addr) (S : Sto) (H : Hp) (σ : L2.St) (x y : V) (a b : D) (Q : VK), Sr K mg φ S H → Rp K mg φ H x a → Rp K mg φ H y b → post (Rp K mg) K mg W φ H σ Q (o a b S) → r x y H Q
section
variable {X : Cx} {W : WX} {a b : Expr} {fa fb : EF} {r : R2} {o : OF}
theorem tOp_of (hr : Op2 X.K X.M r o) : ∀ σ H Q, lE X.K X.M W (eOp o fa fb) σ H Q → tOp r (lE X.K X.M W fa) (lE X.K X.M W fb) σ H Q := fun σ H Q ⟨φ, ρ, S, er, sr, p⟩ =>
  (lf.bind er sr p).imp fun x H1 ⟨φ1, S1, d, e1, sr1, r1, p1⟩ => (lf.bind (er.mono e1) sr1 p1).imp fun y H2 ⟨φ2, S2, d2, e2, sr2, r2, p2⟩ =>
    hr W φ2 S2 H2 σ x y d d2 Q sr2 (r1.mono e2) r2 p2
theorem de_op {op : Operator} {pos : Pos} (ho : OpR X (binaryOp op) r) (hr : Op2 X.K X.M r o) (ha : DE X W a fa) (hb : DE X W b fb) : DE X W (.BinOp a op b pos) (eOp o fa fb) :=
  pe_wk (pe_op ho ha hb) (tOp_of hr)
theorem de_cmp {op : CmpOp} {pos : Pos} (ho : OpR X (compareOp op) r) (hr : Op2 X.K X.M r o) (ha : DE X W a fa) (hb : DE X W b fb) (hm : behindInMarks op b = false := by first | exact nomark _ | rfl) : DE X W (.Compare a [op] [b] pos) (eOp o fa fb) :=
  pe_wk (pe_cmpR ho ha hb hm) (tOp_of hr)
end
theorem Op2.or {K : PySem.W.Frag} {mg : MG} {r r' : R2} {o o' : OF} (h : Op2 K mg r o) (h' : Op2 K mg r' o') (u : OF) (c : ∀ a b S, u a b S = o a b S ∨ u a b S = o' a b S) : Op2 K mg (fun x y H Q => r x y H Q ∨ r' x y H Q) u := fun W φ S H σ x y a b Q s ra rb p => by
  rcases c a b S with e | e
  · rw [e] at p; exact .inl (h W φ S H σ x y a b Q s ra rb p)
  · rw [e] at p; exact .inr (h' W φ S H σ x y a b Q s ra rb p)
/-- two ints -/
def oI (g : Int → Int → Option D) : OF := fun a b S => match a, b with
  | .int i, .int j => match g i j with | some d => .ok d S | none => .no
  | _, _ => .no
theorem oI_ok {K : PySem.W.Frag} {mg : MG} {C : Int → Int → Prop} {g : Int → Int → V} {g' : Int → Int → Option D} (h : ∀ i j d, g' i j = some d → C i j ∧ ∀ φ H, Rp K mg φ H (g i j) d) : Op2 K mg (rI C g) (oI g') := fun W φ S H σ x y a b Q s ra rb p => by
  unfold oI at p
  split at p
  · rename_i i j
    cases ra
    cases rb
    split at p
    · rename_i d e
      obtain ⟨c, r⟩ := h i j d e
      exact ⟨i, j, rfl, rfl, c, p φ H _ Ext.rfl' s (r φ H)⟩
    · exact p.elim
  · exact p.elim
theorem oI_ok0 {K : PySem.W.Frag} {mg : MG} {g : Int → Int → V} {g' : Int → Int → Option D} (h : ∀ i j d, g' i j = some d → ∀ φ H, Rp K mg φ H (g i j) d) : Op2 K mg (rI0 g) (oI g') := fun W φ S H σ x y a b Q s ra rb p => by
  unfold oI at p
  split at p
  · rename_i i j
    cases ra
    cases rb
    split at p
    · rename_i d e
      exact ⟨i, j, rfl, rfl, p φ H _ Ext.rfl' s (h i j d e φ H)⟩
    · exact p.elim
  · exact p.elim
/-- lists' greatest length here -/
def szOk (n : Nat) : Bool := gd (n ≤ 1000000)
theorem szOk.le {n : Nat} (h : szOk n = true) : n ≤ sizeLine := by
  have := of_gd h
  rw [sizeLine_eq]; omega
theorem szOk.lt {n : Nat} (h : szOk n = true) : n < sizeLine := by
  have := of_gd h
  rw [sizeLine_eq]; omega
/-- a + b; of lists a new one, by value -/
def catD (a b : D) (S : Sto) : Option (List D) := match lstOf a S, lstOf b S with
  | some xs, some ys => if szOk (xs.length + ys.length) then some (xs ++ ys) else none
  | _, _ => none
def oAdd : OF := fun a b S => match a, b with
  | .int i, .int j => .ok (.int (i + j)) S
  | .tup xs, .tup ys => if szOk (xs.length + ys.length) then .ok (.tup (xs ++ ys)) S else .no
  | .str x, .str y => if szOk (x.length + y.length) then .ok (.str (x ++ y)) S else .no
  | a, b => match catD a b S with
    | some zs => .ok (.lst zs) S
    | none => .no
abbrev rAddAll (K : PySem.W.Frag) : R2 := fun x y H Q => (rI0 (fun i j => .int (i + j))) x y H Q ∨ (fun x y H Q => rCatA K x y H Q ∨ (fun x y H Q => rCat x y H Q ∨
  (fun x y H Q => ∃ i j, x = .str i ∧ y = .str j ∧ i.length + j.length ≤ sizeLine ∧ Q (.str (i ++ j)) H) x y H Q) x y H Q) x y H Q
theorem op_addAll {X : Cx} : OpR X (binaryOp .Add) (rAddAll X.K) := OpR.or op_add (OpR.or op_catA (OpR.or op_cat op_add_str))
theorem catD_ok {K : PySem.W.Frag} {mg : MG} {φ : List Addr} {S : Sto} {H : Hp} {x y : V} {a b : D} {zs : List D} (s : Sr K mg φ S H) (ra : Rp K mg φ H x a) (rb : Rp K mg φ H y b) (h : catD a b S = some zs) :
    ∃ l m us ws, x = .ref l ∧ y = .ref m ∧ H l = some (.lst us) ∧ H m = some (.lst ws) ∧ us.length + ws.length ≤ sizeLine ∧ Rps K mg φ H (us ++ ws) zs := by
  unfold catD at h
  split at h
  · rename_i xs ys h1 h2
    split at h
    · rename_i hz
      cases h
      obtain ⟨l, us, rfl, g1, r1⟩ := lstOf_ok s ra h1
      obtain ⟨m, ws, rfl, g2, r2⟩ := lstOf_ok s rb h2
      exact ⟨l, m, us, ws, rfl, rfl, g1, g2, by rw [r1.length, r2.length]; exact szOk.le hz, r1.append r2⟩
    · cases h
  · cases h
theorem oAdd_ok {K : PySem.W.Frag} {mg : MG} : Op2 K mg (rAddAll K) oAdd := fun W φ S H σ x y a b Q s ra rb p => by
  unfold oAdd at p
  split at p
  · cases ra; cases rb
    exact .inl ⟨_, _, rfl, rfl, p φ H _ Ext.rfl' s (.int _)⟩
  · split at p
    · rename_i xs ys hz
      cases ra with
      | tup ta rxs =>
        cases rb with
        | tup tb rys =>
          have e1 := rxs.length
          have e2 := rys.length
          refine .inr (.inl ⟨_, _, _, _, rfl, rfl, ta.sq, tb.sq, ?_, fun e => ?_, fun _ e => ?_, fun _ _ q hq => ?_⟩)
          · rw [e1, e2]; exact szOk.le hz
          · subst e
            cases rxs
            exact p φ H _ Ext.rfl' s (.tup tb rys)
          · subst e
            cases rys
            rw [List.append_nil] at p
            exact p φ H _ Ext.rfl' s (.tup ta rxs)
          · exact p φ _ _ (Ext.new hq) (s.new hq) (.tup (.inl (s.im hq)) ((rxs.append rys).mono (Ext.new hq)))
    · exact p.elim
  · split at p
    · rename_i hz
      cases ra; cases rb
      exact .inr (.inr (.inr ⟨_, _, rfl, rfl, szOk.le hz, p φ H _ Ext.rfl' s (.str _)⟩))
    · exact p.elim
  · split at p
    · rename_i zs hzs
      obtain ⟨l, m, us, ws, rfl, rfl, g1, g2, hz, rz⟩ := catD_ok s ra rb hzs
      exact .inr (.inr (.inl ⟨_, _, _, _, rfl, rfl, g1, g2, hz, fun q hq => p φ _ _ (Ext.new hq) (s.new hq) (.lst (s.im hq) (rz.mono (Ext.new hq)))⟩))
    · exact p.elim
/-- a - b -/
def oSub : OF := oI fun i j => some (.int (i - j))
theorem oSub_ok {K : PySem.W.Frag} {mg : MG} : Op2 K mg (rI0 fun i j => .int (i - j)) oSub := oI_ok0 fun i j d e φ H => by cases e; exact .int _
/-- a * b: ints, a list so many times -/
def mulOk (i j : Int) : Bool := gd ((Builtin.Int.intBits i : Int) + (Builtin.Int.intBits j : Int) ≤ 134217728)
/-- ints; a list so many times: a new one by value -/
def repD (d : D) (k : Int) (S : Sto) : Option (List D) := match lstOf d S with
  | some xs => if gd (0 ≤ k ∧ k ≤ 1000000) && szOk (xs.length * k.toNat) then some (List.replicate k.toNat xs).flatten else none
  | none => none
def oMul : OF := fun a b S => match a, b with
  | .int i, .int j => if mulOk i j then .ok (.int (i * j)) S else .no
  | .tup xs, .int k => if gd (xs ≠ [] ∧ 2 ≤ k ∧ k ≤ 1000 ∧ xs.length ≤ 1000) then .ok (.tup (List.replicate k.toNat xs).flatten) S else .no
  | a, .int k => match repD a k S with
    | some zs => .ok (.lst zs) S
    | none => .no
  | _, _ => .no
abbrev rMulAll (K : PySem.W.Frag) : R2 := fun x y H Q => (rI CMulX fun i j => .int (i * j)) x y H Q ∨ (fun x y H Q => rRep x y H Q ∨ rRepT K x y H Q) x y H Q
theorem op_mulAll {X : Cx} : OpR X (binaryOp .Mult) (rMulAll X.K) := OpR.or op_mulX (OpR.or op_rep op_repT)
theorem repD_ok {K : PySem.W.Frag} {mg : MG} {φ : List Addr} {S : Sto} {H : Hp} {x : V} {a : D} {k : Int} {zs : List D} (s : Sr K mg φ S H) (ra : Rp K mg φ H x a) (h : repD a k S = some zs) :
    ∃ l us, x = .ref l ∧ H l = some (.lst us) ∧ 0 ≤ k ∧ k ≤ 1000000 ∧ us.length * k.toNat ≤ sizeLine ∧ Rps K mg φ H (List.replicate k.toNat us).flatten zs := by
  unfold repD at h
  split at h
  · rename_i xs h1
    split at h
    · rename_i hz
      obtain ⟨h2, h3⟩ := Bool.and_eq_true_iff.mp hz
      have h2 := of_gd h2
      cases h
      obtain ⟨l, us, rfl, g1, r1⟩ := lstOf_ok s ra h1
      exact ⟨l, us, rfl, g1, h2.1, h2.2, by rw [r1.length]; exact szOk.le h3, r1.flatten_replicate _⟩
    · cases h
  · cases h
theorem oMul_ok {K : PySem.W.Frag} {mg : MG} : Op2 K mg (rMulAll K) oMul := fun W φ S H σ x y a b Q s ra rb p => by
  unfold oMul at p
  split at p
  · split at p
    · rename_i hz
      cases ra; cases rb
      exact .inl ⟨_, _, rfl, rfl, (of_gd hz : (_ : Int) ≤ 134217728), p φ H _ Ext.rfl' s (.int _)⟩
    · exact p.elim
  · split at p
    · rename_i hz
      obtain ⟨h1, h2, h3, h4⟩ := of_gd hz
      cases rb
      cases ra with
      | tup t rs =>
        have hl := rs.length
        refine .inr (.inr ⟨_, _, _, rfl, rfl, t.sq, fun e => ?_, h2, h3, by omega, fun q hq => p φ _ _ (Ext.new hq) (s.new hq) (.tup (.inl (s.im hq)) ((rs.flatten_replicate _).mono (Ext.new hq)))⟩)
        rw [e] at hl
        exact h1 (List.eq_nil_of_length_eq_zero hl.symm)
    · exact p.elim
  · split at p
    · rename_i zs hzs
      obtain ⟨l, us, rfl, g1, h2, h3, h4, rz⟩ := repD_ok s ra hzs
      cases rb
      exact .inr (.inl ⟨_, _, _, rfl, rfl, g1, by omega, by omega, h4, fun q hq => p φ _ _ (Ext.new hq) (s.new hq) (.lst (s.im hq) (rz.mono (Ext.new hq)))⟩)
    · exact p.elim
  · exact p.elim
/-- a // b -/
def divOk (i j : Int) : Bool := gd (j ≠ 0 ∧ Builtin.divisionGoesByPylong i j = false)
def CDivQ (i j : Int) : Prop := j ≠ 0 ∧ Builtin.divisionGoesByPylong i j = false
theorem op_fdivQ {X : Cx} : OpR X (binaryOp .FloorDiv) (rI CDivQ fun i j => .int (i.fdiv j)) := opI fun i j _ _ _ _ _ hc q => floordiv_int hc.1 q (.inl hc.2)
def oDiv : OF := oI fun i j => if divOk i j then some (.int (i.fdiv j)) else none
theorem oDiv_ok {K : PySem.W.Frag} {mg : MG} : Op2 K mg (rI CDivQ fun i j => .int (i.fdiv j)) oDiv := oI_ok fun i j d e => by
  split at e
  · rename_i h
    cases e
    exact ⟨of_gd h, fun _ _ => .int _⟩
  · cases e
/-- a % b -/
def oMod : OF := oI fun i j => if gd (0 < j) then some (.int (i % j)) else none
theorem oMod_ok {K : PySem.W.Frag} {mg : MG} : Op2 K mg (rI (fun _ j => 0 < j) fun i j => .int (i % j)) oMod := oI_ok fun i j d e => by
  split at e
  · rename_i h; cases e; exact ⟨of_gd h, fun _ _ => .int _⟩
  · cases e
/-- a ** b -/
def oPow : OF := oI fun i j => if gd (0 ≤ j ∧ j ≤ 1000000 ∧ i.natAbs < 2 ^ 64) then some (.int (i ^ j.toNat)) else none
theorem oPow_ok {K : PySem.W.Frag} {mg : MG} : Op2 K mg (rI CPow fun i j => .int (i ^ j.toNat)) oPow := oI_ok fun i j d e => by
  split at e
  · rename_i h; cases e; exact ⟨of_gd h, fun _ _ => .int _⟩
  · cases e
def oLt : OF := oI fun i j => some (.bl (decide (i < j)))
def oLe : OF := oI fun i j => some (.bl (decide (i ≤ j)))
/-- a truth is 1 or 0 -/
def oGt : OF := fun a b S => match a, b with
  | .int i, .int j => .ok (.bl (decide (j < i))) S
  | .bl x, .int j => .ok (.bl (decide (j < (if x = true then 1 else 0)))) S
  | _, _ => .no
section
variable {prog : Program} {w : World} {A : Around} {E : Value → Shared → Prop} {s : Shared}
theorem gives_gt_bi (a : Bool) (b : Int) (u : Tok) : Gives (PySem.Builtin.«int.__gt__» ⟨[.bool a, .int b u], []⟩) (.val (Value.bool ((fun x1 x2 => decide (x1 > x2)) (if a = true then (1 : Int) else 0) b))) :=
  .of_wp fun M A E s Q h => by obtain ⟨hp, g, d, tk, os⟩ := s; wp_walk; exact ⟨_, rfl, h⟩
theorem gt_bool_int {a : Bool} {b : Int} {u : Tok} {Q : Value → Shared → Prop} (h : Q (.bool (decide (b < (if a = true then 1 else 0)))) s) : wpAny (model prog w) A (compareOp .Gt (.bool a) (.int b u)) Q E s := by
  have hop : compareOp .Gt (.bool a) (.int b u) = richCompare .Gt (.bool a) (.int b u) := rfl
  rw [hop]
  refine PySem.SeqAt.rc_left_or (Ta := "bool") (Tb := "int") (op := .Gt) rfl (typeIs_int s b u) (by decide) PySem.F.sub_int_bool PySem.F.slot_bool_gt ?_ (.inl rfl)
  refine call_gives PySem.F.slot_bool_gt rfl PySem.F.entry_int_gt (PySem.F.args_int_gt_2 _ _) (gives_gt_bi a b u) ?_
  exact ⟨nofun, h⟩
end
def rGtB : R2 := fun x y H Q => (∃ i j, x = .int i ∧ y = .int j ∧ Q (.bl (decide (j < i))) H) ∨ (∃ a j, x = .bl a ∧ y = .int j ∧ Q (.bl (decide (j < (if a = true then 1 else 0)))) H)
theorem op_gtB {X : Cx} : OpR X (compareOp .Gt) rGtB := by
  intro pins s σ H x y v u Q I rx ry h
  rcases h with ⟨i, j, rfl, rfl, q⟩ | ⟨a, j, rfl, rfl, q⟩
  · exact op_gt pins s σ H _ _ v u Q I rx ry ⟨i, j, rfl, rfl, q⟩
  · obtain rfl : v = Value.bool a := rx
    obtain ⟨t', rfl⟩ := ry
    exact gt_bool_int ⟨.bl _, H, I, rfl, q⟩
def oGe : OF := oI fun i j => some (.bl (decide (j ≤ i)))
theorem oLt_ok {K : PySem.W.Frag} {mg : MG} : Op2 K mg (rI0 fun i j => .bl (decide (i < j))) oLt := oI_ok0 fun i j d e φ H => by cases e; exact .bl _
theorem oLe_ok {K : PySem.W.Frag} {mg : MG} : Op2 K mg (rI0 fun i j => .bl (decide (i ≤ j))) oLe := oI_ok0 fun i j d e φ H => by cases e; exact .bl _
theorem oGt_ok {K : PySem.W.Frag} {mg : MG} : Op2 K mg rGtB oGt := fun W φ S H σ x y a b Q s ra rb p => by
  unfold oGt at p
  split at p
  · cases ra; cases rb
    exact .inl ⟨_, _, rfl, rfl, p φ H _ Ext.rfl' s (.bl _)⟩
  · cases ra; cases rb
    exact .inr ⟨_, _, rfl, rfl, p φ H _ Ext.rfl' s (.bl _)⟩
  · exact p.elim
theorem oGe_ok {K : PySem.W.Frag} {mg : MG} : Op2 K mg (rI0 fun i j => .bl (decide (j ≤ i))) oGe := oI_ok0 fun i j d e φ H => by cases e; exact .bl _
/-- data by value, read to a depth -/
def pyOf : Nat → Sto → D → Option PyData
  | 0, _, _ => none
  | _ + 1, _, .non => some .none
  | _ + 1, _, .bl b => some (.bool b)
  | _ + 1, _, .int i => some (.int i)
  | _ + 1, _, .str s => some (.str s)
  | n + 1, S, .tup ds => (pyAll (pyOf n S) ds).map .tuple
  | n + 1, S, .lst ds => (pyAll (pyOf n S) ds).map .list
  | n + 1, S, .ob k => match S[k]? with
    | some (.lst ds) => (pyAll (pyOf n S) ds).map .list
    | _ => none
  | _ + 1, _, _ => none
where pyAll (f : D → Option PyData) : List D → Option (List PyData)
  | [] => some []
  | d :: r => match f d, pyAll f r with
    | some x, some xs => some (x :: xs)
    | _, _ => none
theorem pyAll_ok {K : PySem.W.Frag} {mg : MG} {φ : List Addr} {H : Hp} {f : D → Option PyData} (hf : ∀ v d e, Rp K mg φ H v d → f d = some e → Dp K H v e) :
    ∀ (vs : List V) (ds : List D) (es : List PyData), Rps K mg φ H vs ds → pyOf.pyAll f ds = some es → DpAll K H vs es
  | _, _, es, .nil, h => by cases h; exact .nil
  | _, d :: r, es, .cons a b, h => by
    unfold pyOf.pyAll at h
    split at h
    · rename_i x xs h1 h2
      cases h
      exact .cons (hf _ _ _ a h1) (pyAll_ok hf _ _ _ b h2)
    · cases h
theorem pyOf_ok {K : PySem.W.Frag} {mg : MG} {φ : List Addr} {H : Hp} {S : Sto} (s : Sr K mg φ S H) : ∀ (n : Nat) (v : V) (d : D) (e : PyData), Rp K mg φ H v d → pyOf n S d = some e → Dp K H v e
  | 0, _, _, _, _, h => by simp [pyOf] at h
  | n + 1, v, d, e, r, h => by
    have ih := pyOf_ok s n
    cases d with
    | non => cases r; simp [pyOf] at h; subst h; exact .non
    | bl b => cases r; simp [pyOf] at h; subst h; exact .bl b
    | int b => cases r; simp [pyOf] at h; subst h; exact .int b
    | str b => cases r; simp [pyOf] at h; subst h; exact .str b
    | tup ds =>
      simp only [pyOf, Option.map_eq_some_iff] at h
      obtain ⟨es, h1, rfl⟩ := h
      cases r with
      | tup t rs => exact .tup t.sq (pyAll_ok (fun v d e a b => ih v d e a b) _ _ _ rs h1)
    | lst ds =>
      simp only [pyOf, Option.map_eq_some_iff] at h
      obtain ⟨es, h1, rfl⟩ := h
      cases r with
      | lst t rs => exact .lst (.of t.2) (pyAll_ok (fun v d e a b => ih v d e a b) _ _ _ rs h1)
    | ob k =>
      simp only [pyOf] at h
      split at h
      · rename_i ds hk
        simp only [Option.map_eq_some_iff] at h
        obtain ⟨es, h1, rfl⟩ := h
        cases r with
        | ob hn =>
          obtain ⟨xs, g, rs⟩ := s.lst hn hk
          exact .lst (.of g) (pyAll_ok (fun v d e a b => ih v d e a b) _ _ _ rs h1)
      · cases h
    | _ => simp [pyOf] at h
def oEqG (neg : Bool) : OF := fun a b S => match pyOf 40 S a, pyOf 40 S b with
  | some x, some y => if SeqAt.shaped x && SeqAt.shaped y then .ok (.bl (PyData.eqv x y != neg)) S else .no
  | _, _ => .no
def oEq : OF := oEqG false
def oNe : OF := oEqG true
theorem oEq_ok {K : PySem.W.Frag} {mg : MG} : Op2 K mg (rEqD K) oEq := fun W φ S H σ x y a b Q s ra rb p => by
  unfold oEq oEqG at p
  split at p
  · rename_i u v h1 h2
    split at p
    · rename_i hz
      obtain ⟨z1, z2⟩ := Bool.and_eq_true_iff.mp hz
      refine ⟨u, v, pyOf_ok s 40 _ _ _ ra h1, pyOf_ok s 40 _ _ _ rb h2, z1, z2, ?_⟩
      have q := p φ H (.bl (PyData.eqv u v)) Ext.rfl' s (by rw [Bool.bne_false]; exact .bl _)
      exact q
    · exact p.elim
  · exact p.elim
theorem oNe_ok {K : PySem.W.Frag} {mg : MG} : Op2 K mg (rNeD K) oNe := fun W φ S H σ x y a b Q s ra rb p => by
  unfold oNe oEqG at p
  split at p
  · rename_i u v h1 h2
    split at p
    · rename_i hz
      obtain ⟨z1, z2⟩ := Bool.and_eq_true_iff.mp hz
      refine ⟨u, v, pyOf_ok s 40 _ _ _ ra h1, pyOf_ok s 40 _ _ _ rb h2, z1, z2, ?_⟩
      have q := p φ H (.bl (!PyData.eqv u v)) Ext.rfl' s (by rw [Bool.bne_true]; exact .bl _)
      exact q
    · exact p.elim
  · exact p.elim
/-- is, is not: beside None, of two truths -/
def isNonD : D → Option Bool
  | .non => some true
  | _ => some false
def isBlD (y : Bool) : D → Bool
  | .bl x => decide (x = y)
  | _ => false
def oIsG (neg : Bool) : OF := fun a b S => match b with
  | .non => match isNonD a with | some k => .ok (.bl (k != neg)) S | none => .no
  | .bl y => .ok (.bl (isBlD y a != neg)) S
  | _ => .no
def oIs : OF := oIsG false
def oIsnt : OF := oIsG true
theorem op_is_blx {X : Cx} : OpR X (compareOp .Is) (fun x y H Q => ∃ b, y = .bl b ∧ Q (.bl (decide (x = .bl b))) H) := by
  intro pins s σ H x y v u Q I rx ry h
  obtain ⟨b, rfl, q⟩ := h
  cases (show u = Value.bool b from ry)
  have key : ∀ v : Value, RelV x v → plainIs v (.bool b) = true ∧ (v == .bool b) = decide (x = .bl b) := by
    intro v rx
    cases x with
    | bl c => cases (show v = Value.bool c from rx); exact ⟨rfl, by cases c <;> cases b <;> rfl⟩
    | non => cases rx; exact ⟨rfl, by simp⟩
    | ref a => cases rx; exact ⟨rfl, by simp⟩
    | ty a => cases rx; exact ⟨rfl, by simp⟩
    | _ => obtain ⟨t, rfl⟩ := rx; exact ⟨rfl, by simp⟩
  obtain ⟨k1, k2⟩ := key v rx
  exact wpAny_is_plain k1 ⟨.bl _, H, I, by rw [k2]; rfl, q⟩
theorem op_isnot_blx {X : Cx} : OpR X (compareOp .IsNot) (fun x y H Q => ∃ b, y = .bl b ∧ Q (.bl (!decide (x = .bl b))) H) := by
  intro pins s σ H x y v u Q I rx ry h
  obtain ⟨b, rfl, q⟩ := h
  cases (show u = Value.bool b from ry)
  have key : ∀ v : Value, RelV x v → plainIs v (.bool b) = true ∧ (v == .bool b) = decide (x = .bl b) := by
    intro v rx
    cases x with
    | bl c => cases (show v = Value.bool c from rx); exact ⟨rfl, by cases c <;> cases b <;> rfl⟩
    | non => cases rx; exact ⟨rfl, by simp⟩
    | ref a => cases rx; exact ⟨rfl, by simp⟩
    | ty a => cases rx; exact ⟨rfl, by simp⟩
    | _ => obtain ⟨t, rfl⟩ := rx; exact ⟨rfl, by simp⟩
  obtain ⟨k1, k2⟩ := key v rx
  exact wpAny_isNot_plain k1 ⟨.bl _, H, I, by rw [k2]; rfl, q⟩
theorem isNonD_ok {K : PySem.W.Frag} {mg : MG} {φ : List Addr} {H : Hp} {v : V} {d : D} {k : Bool} (r : Rp K mg φ H v d) (h : isNonD d = some k) : decide (v = .non) = k := by
  cases r <;> simp [isNonD] at h <;> subst h <;> simp
theorem isBlD_ok {K : PySem.W.Frag} {mg : MG} {φ : List Addr} {H : Hp} {v : V} {d : D} {y : Bool} (r : Rp K mg φ H v d) : decide (v = .bl y) = isBlD y d := by
  cases r <;> simp [isBlD]
abbrev rIsAll : R2 := fun x y H Q => (fun x y H Q => y = .non ∧ Q (.bl (decide (x = .non))) H) x y H Q ∨ (fun x y H Q => ∃ b, y = .bl b ∧ Q (.bl (decide (x = .bl b))) H) x y H Q
abbrev rIsntAll : R2 := fun x y H Q => (fun x y H Q => y = .non ∧ Q (.bl (!decide (x = .non))) H) x y H Q ∨ (fun x y H Q => ∃ b, y = .bl b ∧ Q (.bl (!decide (x = .bl b))) H) x y H Q
theorem op_isAll {X : Cx} : OpR X (compareOp .Is) rIsAll := OpR.or op_isN op_is_blx
theorem op_isntAll {X : Cx} : OpR X (compareOp .IsNot) rIsntAll := OpR.or op_notN op_isnot_blx
theorem oIs_ok {K : PySem.W.Frag} {mg : MG} : Op2 K mg rIsAll oIs := fun W φ S H σ x y a b Q s ra rb p => by
  unfold oIs oIsG at p
  split at p
  · split at p
    · rename_i k hk
      cases rb
      refine .inl ⟨rfl, ?_⟩
      rw [isNonD_ok ra hk]
      exact p φ H _ Ext.rfl' s (by rw [Bool.bne_false]; exact .bl _)
    · exact p.elim
  · cases rb
    refine .inr ⟨_, rfl, ?_⟩
    rw [isBlD_ok ra]
    exact p φ H _ Ext.rfl' s (by rw [Bool.bne_false]; exact .bl _)
  · exact p.elim
theorem oIsnt_ok {K : PySem.W.Frag} {mg : MG} : Op2 K mg rIsntAll oIsnt := fun W φ S H σ x y a b Q s ra rb p => by
  unfold oIsnt oIsG at p
  split at p
  · split at p
    · rename_i k hk
      cases rb
      refine .inl ⟨rfl, ?_⟩
      rw [isNonD_ok ra hk]
      exact p φ H _ Ext.rfl' s (by rw [Bool.bne_true]; exact .bl _)
    · exact p.elim
  · cases rb
    refine .inr ⟨_, rfl, ?_⟩
    rw [isBlD_ok ra]
    exact p φ H _ Ext.rfl' s (by rw [Bool.bne_true]; exact .bl _)
  · exact p.elim
end DV
set_option Elab.async false
set_option linter.all false
set_option maxRecDepth 100000
namespace DV
open PySem PySem.Spec PyProof.Rows L2
def truD : D → Sto → Option Bool
  | .non, _ => some false
  | .bl b, _ => some b
  | .int i, _ => some (i != 0)
  | .str s, _ => if szOk s.length then some ((s.length : Int) != 0) else none
  | .tup xs, _ => some (!xs.isEmpty)
  | .dct kvs, _ => some (!kvs.isEmpty)
  | .ob n, S => match S[n]? with
    | some (.lst xs) => some (!xs.isEmpty)
    | some (.dic kvs) => some (!kvs.isEmpty)
    | _ => none
  | .lst xs, _ => some (!xs.isEmpty)
  | _, _ => none
theorem Rps.isEmpty {K : PySem.W.Frag} {mg : MG} {φ : List Addr} {H : Hp} : ∀ {vs : List V} {ds : List D}, Rps K mg φ H vs ds → vs.isEmpty = ds.isEmpty
  | _, _, .nil => rfl
  | _, _, .cons _ _ => rfl
theorem map_isEmpty {α β γ : Type} {ws : List (α × β)} {kvs : List (α × γ)} (h : ws.map (·.1) = kvs.map (·.1)) : ws.isEmpty = kvs.isEmpty := by
  cases ws <;> cases kvs <;> simp_all
theorem truD_ok {K : PySem.W.Frag} {mg : MG} {φ : List Addr} {H : Hp} {S : Sto} {v : V} {d : D} {k : Bool} (s : Sr K mg φ S H) (r : Rp K mg φ H v d) (h : truD d S = some k) : TruV K v H k := by
  cases d with
  | non => cases r; simp [truD] at h; exact h
  | bl b => cases r; simp [truD] at h; exact h.symm
  | int i => cases r; simp [truD] at h; exact h.symm
  | str x =>
    cases r
    simp only [truD] at h
    split at h
    · rename_i hz; cases h; exact ⟨szOk.le hz, rfl⟩
    · cases h
  | tup xs =>
    cases r with
    | tup t rs =>
      simp only [truD] at h
      cases h
      exact .inr (.inl ⟨_, t.sq, by rw [rs.isEmpty]⟩)
  | lst xs =>
    cases r with
    | lst t rs =>
      simp only [truD] at h
      cases h
      exact .inl ⟨_, .of t.2, by rw [rs.isEmpty]⟩
  | dct kvs =>
    cases r with
    | dct t kk rs =>
      simp only [truD] at h
      cases h
      exact .inr (.inr ⟨_, t.2, by rw [map_isEmpty kk]⟩)
  | ob n =>
    cases r with
    | ob hn =>
      simp only [truD] at h
      split at h
      · rename_i xs e
        cases h
        obtain ⟨us, g, rs⟩ := s.lst hn e
        exact .inl ⟨_, .of g, by rw [rs.isEmpty]⟩
      · rename_i kvs e
        cases h
        obtain ⟨b, h1, ws, g, k1, rs⟩ := s.at' n _ e
        rw [hn] at h1; cases h1
        exact .inr (.inr ⟨_, g, by rw [map_isEmpty k1]⟩)
      · cases h
  | _ => simp [truD] at h
def eOr (a b : EF) : EF := fun ρ S => (a ρ S).bind fun d S1 => match truD d S1 with
  | some true => .ok d S1
  | some false => b ρ S1
  | none => .no
def eAnd (a b : EF) : EF := fun ρ S => (a ρ S).bind fun d S1 => match truD d S1 with
  | some true => b ρ S1
  | some false => .ok d S1
  | none => .no
def eNot (a : EF) : EF := fun ρ S => (a ρ S).bind fun d S1 => match truD d S1 with
  | some k => .ok (.bl (!k)) S1
  | none => .no
def tTru (a : EF) : TF := fun ρ S => (a ρ S).bind fun d S1 => match truD d S1 with
  | some k => .ok k S1
  | none => .no
def bAnd (a b : TF) : TF := fun ρ S => (a ρ S).bind fun k S1 => if k = true then b ρ S1 else .ok false S1
def bOr (a b : TF) : TF := fun ρ S => (a ρ S).bind fun k S1 => if k = true then .ok true S1 else b ρ S1
def bNot (a : TF) : TF := fun ρ S => (a ρ S).bind fun k S1 => .ok (!k) S1
def eIf (c : TF) (a b : EF) : EF := fun ρ S => (c ρ S).bind fun k S1 => if k = true then a ρ S1 else b ρ S1
section
variable {X : Cx} {W : WX} {a b c : Expr} {fa fb fc : EF} {ga gb : TF} {rest : List Expr} {pos : Pos}
theorem de_one {op : BoolOp} (h : DE X W a fa) : DE X W (.BoolOp op [a] pos) fa := pe_one h
theorem de_or (ha : DE X W a fa) (hb : DE X W (.BoolOp .Or (b :: rest) pos) fb) : DE X W (.BoolOp .Or (a :: b :: rest) pos) (eOr fa fb) :=
  pe_wk (pe_orT ha hb) fun σ H Q ⟨φ, ρ, S, er, sr, p⟩ => (lf.bind er sr p).imp fun x H1 ⟨φ1, S1, d, e1, sr1, r1, p1⟩ => by
    split at p1
    · rename_i hk
      refine ⟨true, truD_ok sr1 r1 hk, ?_⟩
      rw [if_pos rfl]
      exact p1 φ1 H1 x Ext.rfl' sr1 r1
    · rename_i hk
      refine ⟨false, truD_ok sr1 r1 hk, ?_⟩
      rw [if_neg Bool.false_ne_true]
      exact ⟨φ1, ρ, S1, er.mono e1, sr1, p1⟩
    · exact p1.elim
theorem de_and (ha : DE X W a fa) (hb : DE X W (.BoolOp .And (b :: rest) pos) fb) : DE X W (.BoolOp .And (a :: b :: rest) pos) (eAnd fa fb) :=
  pe_wk (pe_andT ha hb) fun σ H Q ⟨φ, ρ, S, er, sr, p⟩ => (lf.bind er sr p).imp fun x H1 ⟨φ1, S1, d, e1, sr1, r1, p1⟩ => by
    split at p1
    · rename_i hk
      refine ⟨true, truD_ok sr1 r1 hk, ?_⟩
      rw [if_pos rfl]
      exact ⟨φ1, ρ, S1, er.mono e1, sr1, p1⟩
    · rename_i hk
      refine ⟨false, truD_ok sr1 r1 hk, ?_⟩
      rw [if_neg Bool.false_ne_true]
      exact p1 φ1 H1 x Ext.rfl' sr1 r1
    · exact p1.elim
theorem de_not (ha : DE X W a fa) : DE X W (.UnaryOp .Not a pos) (eNot fa) :=
  pe_wk (pe_notT ha) fun σ H Q ⟨φ, ρ, S, er, sr, p⟩ => (lf.bind er sr p).imp fun x H1 ⟨φ1, S1, d, e1, sr1, r1, p1⟩ => by
    split at p1
    · rename_i k hk
      exact ⟨k, truD_ok sr1 r1 hk, p1 φ1 H1 _ Ext.rfl' sr1 (.bl _)⟩
    · exact p1.elim
theorem dt_val (ha : DE X W a fa) (he : ∀ whole, isTrue a X.env whole = (do let v ← whole; standAt a.pos; holding [v] (truthy v)) := by intro _; rfl) : DT X W a (tTru fa) :=
  pt_wk (pt_truth ha he) fun σ H Q ⟨φ, ρ, S, er, sr, p⟩ => (lf.bind er sr p).imp fun x H1 ⟨φ1, S1, d, e1, sr1, r1, p1⟩ => by
    split at p1
    · rename_i k hk
      exact ⟨k, truD_ok sr1 r1 hk, p1 φ1 H1 _ Ext.rfl' sr1 rfl⟩
    · exact p1.elim
theorem dt_cmp {op : CmpOp} {r : R2} {o : OF} (ho : OpR X (compareOp op) r) (hr : Op2 X.K X.M r o) (hb' : ∀ a b S d S', o a b S = .ok d S' → ∃ k, d = .bl k) (ha : DE X W a fa) (hb : DE X W b fb)
    (hm : behindInMarks op b = false := by first | exact nomark _ | rfl) : DT X W (.Compare a [op] [b] pos) (tTru (eOp o fa fb)) :=
  pt_wk (pt_cmpR ho ha hb hm) fun σ H Q z => by
    refine tOp_of hr σ H _ ?_
    obtain ⟨φ, ρ, S, er, sr, p⟩ := z
    refine ⟨φ, ρ, S, er, sr, ?_⟩
    unfold tTru at p
    cases e : eOp o fa fb ρ S with
    | ok d S1 =>
      rw [e] at p
      intro φ' H' x e' s' r'
      have hk : ∃ k, d = .bl k := by
        unfold eOp at e
        cases e1 : fa ρ S with
        | ok d1 S2 =>
          rw [e1] at e
          simp only [Res.bind] at e
          cases e2 : fb ρ S2 with
          | ok d2 S3 => rw [e2] at e; exact hb' _ _ _ _ _ e
          | ex _ _ => rw [e2] at e; cases e
          | no => rw [e2] at e; cases e
        | ex _ _ => rw [e1] at e; cases e
        | no => rw [e1] at e; cases e
      obtain ⟨k, rfl⟩ := hk
      cases r'
      exact ⟨k, rfl, p φ' H' k e' s' rfl⟩
    | ex c S1 => rw [e] at p; exact p
    | no => rw [e] at p; exact p
theorem dt_not (ha : DT X W a ga) : DT X W (.UnaryOp .Not a pos) (bNot ga) :=
  pt_wk (pt_not ha) fun σ H Q ⟨φ, ρ, S, er, sr, p⟩ => (lf.bind er sr p).imp fun x H1 ⟨φ1, S1, d, e1, sr1, r1, p1⟩ => by
    cases r1
    exact p1 φ1 H1 _ Ext.rfl' sr1 rfl
def DW (X : Cx) (W : WX) (e : Expr) (f : TF) : Prop := PW X e (lT X.K X.M W f)
theorem pw_wk {X : Cx} {e : Expr} {t t' : TT} (h : PW X e t) (q : ∀ σ H Q, t' σ H Q → t σ H Q) : PW X e t' := ⟨fun whole pins s σ H Q I z => h.run whole pins s σ H Q I (q σ H Q z)⟩
theorem dw_and1 (ha : DT X W a ga) : DW X W (.BoolOp .And [a] pos) ga := pw_and1 ha
theorem dw_or1 (ha : DT X W a ga) : DW X W (.BoolOp .Or [a] pos) ga := pw_or1 ha
theorem dw_and (ha : DT X W a ga) (hb : DW X W (.BoolOp .And (b :: rest) pos) gb) : DW X W (.BoolOp .And (a :: b :: rest) pos) (bAnd ga gb) :=
  pw_wk (pw_and ha hb) fun σ H Q ⟨φ, ρ, S, er, sr, p⟩ => (lf.bind er sr p).imp fun x H1 ⟨φ1, S1, d, e1, sr1, r1, p1⟩ => by
    cases r1
    split
    · rename_i h; rw [if_pos h] at p1; exact ⟨φ1, ρ, S1, er.mono e1, sr1, p1⟩
    · rename_i h; rw [if_neg h] at p1; exact p1 φ1 H1 _ Ext.rfl' sr1 rfl
theorem dw_or (ha : DT X W a ga) (hb : DW X W (.BoolOp .Or (b :: rest) pos) gb) : DW X W (.BoolOp .Or (a :: b :: rest) pos) (bOr ga gb) :=
  pw_wk (pw_or ha hb) fun σ H Q ⟨φ, ρ, S, er, sr, p⟩ => (lf.bind er sr p).imp fun x H1 ⟨φ1, S1, d, e1, sr1, r1, p1⟩ => by
    cases r1
    split
    · rename_i h; rw [if_pos h] at p1; exact p1 φ1 H1 _ Ext.rfl' sr1 rfl
    · rename_i h; rw [if_neg h] at p1; exact ⟨φ1, ρ, S1, er.mono e1, sr1, p1⟩
theorem dt_w (h : DW X W a ga) : DT X W a ga := PW.pt h
/-- a op b op' c -/
def eChain (o o' : OF) (fa fb fc : EF) : EF := fun ρ S => (fa ρ S).bind fun x S1 => (fb ρ S1).bind fun y S2 => (o x y S2).bind fun z S3 => match z with
  | .bl true => (fc ρ S3).bind fun w S4 => o' y w S4
  | .bl false => .ok (.bl false) S3
  | _ => .no
theorem de_chain {op op' : CmpOp} {r r' : R2} {o o' : OF} (ho : OpR X (compareOp op) r) (hr : Op2 X.K X.M r o) (ho' : OpR X (compareOp op') r') (hr' : Op2 X.K X.M r' o') (ha : DE X W a fa) (hb : DE X W b fb) (hc : DE X W c fc)
    (h1 : PE X (.Compare a [op, op'] [b, c] pos) (tChain r r' (lE X.K X.M W fa) (lE X.K X.M W fb) (lE X.K X.M W fc))) : DE X W (.Compare a [op, op'] [b, c] pos) (eChain o o' fa fb fc) :=
  pe_wk h1 fun σ H Q ⟨φ, ρ, S, er, sr, p⟩ => (lf.bind er sr p).imp fun x H1 ⟨φ1, S1, d, e1, sr1, r1, p1⟩ => (lf.bind (er.mono e1) sr1 p1).imp fun y H2 ⟨φ2, S2, d2, e2, sr2, r2, p2⟩ => by
    refine hr W φ2 S2 H2 σ x y d d2 _ sr2 (r1.mono e2) r2 ?_
    cases e : o d d2 S2 with
    | ok z S3 =>
      rw [e] at p2
      intro φ' H' zv e' s' rz
      simp only [Res.bind] at p2
      split at p2
      · cases rz
        refine ⟨true, rfl, ?_⟩
        rw [if_pos rfl]
        exact (lf.bind (((er.mono e1).mono e2).mono e') s' (p2.mono e')).imp fun w H4 ⟨φ4, S4, d4, e4, sr4, r4, p4⟩ =>
          hr' W φ4 S4 H4 σ y w d2 d4 Q sr4 ((r2.mono e').mono e4) r4 p4
      · cases rz
        refine ⟨false, rfl, ?_⟩
        rw [if_neg Bool.false_ne_true]
        exact p2 φ' H' _ e' s' (.bl _)
      · exact p2.elim
    | ex c S3 => rw [e] at p2; exact p2
    | no => rw [e] at p2; exact p2
end
theorem oI_bl {g : Int → Int → Option D} (h : ∀ i j d, g i j = some d → ∃ k, d = .bl k) : ∀ a b S d S', oI g a b S = .ok d S' → ∃ k, d = .bl k := fun a b S d S' e => by
  unfold oI at e
  split at e
  · split at e
    · rename_i h1; cases e; exact h _ _ _ h1
    · cases e
  · cases e
theorem oLt_bl : ∀ a b S d S', oLt a b S = .ok d S' → ∃ k, d = .bl k := oI_bl fun _ _ _ e => by cases e; exact ⟨_, rfl⟩
theorem oGt_bl : ∀ a b S d S', oGt a b S = .ok d S' → ∃ k, d = .bl k := fun a b S d S' h => by
  unfold oGt at h
  split at h
  · cases h; exact ⟨_, rfl⟩
  · cases h; exact ⟨_, rfl⟩
  · cases h
theorem oGe_bl : ∀ a b S d S', oGe a b S = .ok d S' → ∃ k, d = .bl k := oI_bl fun _ _ _ e => by cases e; exact ⟨_, rfl⟩
theorem oEqG_bl {n : Bool} : ∀ a b S d S', oEqG n a b S = .ok d S' → ∃ k, d = .bl k := fun a b S d S' e => by
  unfold oEqG at e
  split at e
  · split at e
    · cases e; exact ⟨_, rfl⟩
    · cases e
  · cases e
theorem oIsG_bl {n : Bool} : ∀ a b S d S', oIsG n a b S = .ok d S' → ∃ k, d = .bl k := fun a b S d S' e => by
  unfold oIsG at e
  split at e
  · split at e
    · cases e; exact ⟨_, rfl⟩
    · cases e
  · cases e; exact ⟨_, rfl⟩
  · cases e
def aNil : AF := fun _ S => .ok [] S
def aCons (a : EF) (r : AF) : AF := fun ρ S => (a ρ S).bind fun x S1 => (r ρ S1).bind fun xs S2 => .ok (x :: xs) S2
def eTup (a : AF) : EF := fun ρ S => (a ρ S).bind fun ds S1 => if szOk ds.length then .ok (.tup ds) S1 else .no
/-- [..]: by value; eLstS: an object of the store -/
def eLst (a : AF) : EF := fun ρ S => (a ρ S).bind fun ds S1 => if szOk ds.length then .ok (.lst ds) S1 else .no
def eLstS (a : AF) : EF := fun ρ S => (a ρ S).bind fun ds S1 => if szOk ds.length then .ok (.ob S1.length) (S1 ++ [.lst ds]) else .no
section
variable {X : Cx} {W : WX} {e : Expr} {es : List Expr} {fa : EF} {ga : AF} {pos : Pos}
theorem da_nil : DA X W [] aNil := pa_wk pa_nil fun σ H Q ⟨φ, ρ, S, er, sr, p⟩ => p φ H [] Ext.rfl' sr .nil
theorem tCons_of : ∀ σ H Q, lA X.K X.M W (aCons fa ga) σ H Q → tCons (lE X.K X.M W fa) (lA X.K X.M W ga) σ H Q := fun σ H Q ⟨φ, ρ, S, er, sr, p⟩ =>
  (lf.bind er sr p).imp fun x H1 ⟨φ1, S1, d, e1, sr1, r1, p1⟩ => (lf.bind (er.mono e1) sr1 p1).imp fun xs H2 ⟨φ2, S2, ds, e2, sr2, r2, p2⟩ =>
    p2 φ2 H2 _ Ext.rfl' sr2 (.cons (r1.mono e2) r2)
theorem da_cons (h : PA X (e :: es) (tCons (lE X.K X.M W fa) (lA X.K X.M W ga))) : DA X W (e :: es) (aCons fa ga) := pa_wk h tCons_of
theorem de_tup {k : Nat} (h : PE X (.Tuple es k pos) (tTup (lA X.K X.M W ga))) : DE X W (.Tuple es k pos) (eTup ga) :=
  pe_wk h fun σ H Q ⟨φ, ρ, S, er, sr, p⟩ => (lf.bind er sr p).imp fun xs H1 ⟨φ1, S1, ds, e1, sr1, r1, p1⟩ => by
    split at p1
    · rename_i hz
      refine ⟨by rw [r1.length]; exact szOk.le hz, fun q hq => ?_⟩
      exact p1 φ1 _ _ (Ext.new hq) (sr1.new hq) (.tup (.inl (sr1.im hq)) (r1.mono (Ext.new hq)))
    · exact p1.elim
theorem de_lst (h : PE X (.List es pos) (tLst (lA X.K X.M W ga))) : DE X W (.List es pos) (eLst ga) :=
  pe_wk h fun σ H Q ⟨φ, ρ, S, er, sr, p⟩ => (lf.bind er sr p).imp fun xs H1 ⟨φ1, S1, ds, e1, sr1, r1, p1⟩ => by
    split at p1
    · rename_i hz
      exact ⟨by rw [r1.length]; exact szOk.le hz, fun q hq => p1 φ1 _ _ (Ext.new hq) (sr1.new hq) (.lst (sr1.im hq) (r1.mono (Ext.new hq)))⟩
    · exact p1.elim
theorem de_lstS (h : PE X (.List es pos) (tLst (lA X.K X.M W ga))) : DE X W (.List es pos) (eLstS ga) :=
  pe_wk h fun σ H Q ⟨φ, ρ, S, er, sr, p⟩ => (lf.bind er sr p).imp fun xs H1 ⟨φ1, S1, ds, e1, sr1, r1, p1⟩ => by
    split at p1
    · rename_i hz
      refine ⟨by rw [r1.length]; exact szOk.le hz, fun q hq => ?_⟩
      have e := Ext.newSnoc (φ := φ1) (o := .lst xs) hq
      exact p1 _ _ _ e (sr1.snoc hq ⟨_, upd_same, r1.mono e⟩) (.ob (at_snoc sr1 q))
    · exact p1.elim
end
def oIx : OF := fun a b S => match a, b with
  | .str z, .int i => if szOk z.length then match atI z.cps.toList i with | some c => .ok (.str ⟨#[c]⟩) S | none => .no else .no
  | .tup xs, .int i => match atI xs i with | some d => .ok d S | none => .no
  | a, .int i => match lstOf a S with
    | some xs => match atI xs i with | some d => .ok d S | none => .no
    | none => .no
  | _, _ => .no
theorem Rps.atI {K : PySem.W.Frag} {mg : MG} {φ : List Addr} {H : Hp} {vs : List V} {ds : List D} {i : Int} {d : D} (r : Rps K mg φ H vs ds) (h : L2.atI ds i = some d) : ∃ v, L2.atI vs i = some v ∧ Rp K mg φ H v d := by
  unfold L2.atI at h ⊢
  rw [r.length]
  cases e : ixN ds.length i with
  | none => rw [e] at h; cases h
  | some j =>
    rw [e] at h
    exact r.get h
theorem oIx_ok {K : PySem.W.Frag} {mg : MG} : Op2 K mg (rIx K) oIx := fun W φ S H σ x y a b Q s ra rb p => by
  unfold oIx at p
  split at p
  · split at p
    · rename_i hz
      split at p
      · rename_i c e
        cases ra; cases rb
        exact .inr (.inr ⟨_, _, c, rfl, rfl, szOk.le hz, e, p φ H _ Ext.rfl' s (.str _)⟩)
      · exact p.elim
    · exact p.elim
  · split at p
    · rename_i d e
      cases rb
      cases ra with
      | tup t rs =>
        obtain ⟨v, h1, r1⟩ := rs.atI e
        exact .inr (.inl ⟨_, _, _, v, rfl, rfl, t.sq, h1, p φ H v Ext.rfl' s r1⟩)
    · exact p.elim
  · split at p
    · rename_i xs e0
      split at p
      · rename_i d e
        cases rb
        obtain ⟨l, us, rfl, g, rs⟩ := lstOf_ok s ra e0
        obtain ⟨v, h1, r1⟩ := rs.atI e
        exact .inl ⟨_, _, _, v, rfl, rfl, .of g, h1, p φ H v Ext.rfl' s r1⟩
      · exact p.elim
    · exact p.elim
  · exact p.elim
theorem de_ix {X : Cx} {W : WX} {a b : Expr} {fa fb : EF} {pos : Pos} (ha : DE X W a fa) (hb : DE X W b fb) (hs : PlainIx b := by intro _ _; rfl) : DE X W (.Subscript a b pos) (eOp oIx fa fb) :=
  pe_wk (pe_ix ix_seq ha hb hs) (tOp_of oIx_ok)
/-- a slice's part -/
abbrev PF := Lc → Sto → Res (Option Int)
abbrev RO : Rl (Option Int) (Option Int) := fun _ _ x a => x = a
def pNo : PF := fun _ S => .ok none S
def pAt (a : EF) : PF := fun ρ S => (a ρ S).bind fun d S1 => match d with | .int i => .ok (some i) S1 | _ => .no
def DO (X : Cx) (W : WX) (e : Option Expr) (f : PF) : Prop := PO X e (lf RO X.K X.M W f)
theorem po_wk {X : Cx} {e : Option Expr} {t t' : TO} (h : PO X e t) (q : ∀ σ H Q, t' σ H Q → t σ H Q) : PO X e t' := ⟨fun pins s σ H Q I z => h.run pins s σ H Q I (q σ H Q z)⟩
theorem do_no {X : Cx} {W : WX} : DO X W none pNo := po_wk po_none fun σ H Q ⟨φ, ρ, S, er, sr, p⟩ => p φ H none Ext.rfl' sr rfl
theorem do_at {X : Cx} {W : WX} {e : Expr} {fa : EF} (h : DE X W e fa) : DO X W (some e) (pAt fa) := po_wk (po_some h) fun σ H Q ⟨φ, ρ, S, er, sr, p⟩ =>
  (lf.bind er sr p).imp fun x H1 ⟨φ1, S1, d, e1, sr1, r1, p1⟩ => by
    split at p1
    · cases r1
      exact ⟨_, rfl, p1 φ1 H1 _ Ext.rfl' sr1 rfl⟩
    · exact p1.elim
def cutD {α : Type} (xs : List α) (lo hi : Option Int) : List α := (xs.drop (HT.sIx xs.length 0 lo)).take (HT.sIx xs.length xs.length hi - HT.sIx xs.length 0 lo)
theorem Rps.cut {K : PySem.W.Frag} {mg : MG} {φ : List Addr} {H : Hp} {vs : List V} {ds : List D} (r : Rps K mg φ H vs ds) (lo hi : Option Int) : Rps K mg φ H (cutV vs lo hi) (cutD ds lo hi) := by
  unfold cutV cutD
  rw [r.length]
  exact (r.drop _).take _
def oSl (d : D) (lo hi : Option Int) (S : Sto) : Res D := match d with
  | .tup xs => .ok (.tup (cutD xs lo hi)) S
  | .str z => if szOk z.length then .ok (.str (cutS z lo hi)) S else .no
  | d => match lstOf d S with
    | some xs => .ok (.lst (cutD xs lo hi)) S
    | none => .no
def oSlS (d : D) (lo hi : Option Int) (S : Sto) : Res D := match lstOf d S with
    | some xs => .ok (.ob S.length) (S ++ [.lst (cutD xs lo hi)])
    | none => .no
def eSl (a : EF) (lo hi : PF) : EF := fun ρ S => (a ρ S).bind fun d S1 => (lo ρ S1).bind fun l S2 => (hi ρ S2).bind fun u S3 => oSl d l u S3
def eSlS (a : EF) (lo hi : PF) : EF := fun ρ S => (a ρ S).bind fun d S1 => (lo ρ S1).bind fun l S2 => (hi ρ S2).bind fun u S3 => oSlS d l u S3
abbrev rSlAll (K : PySem.W.Frag) : V → Option Int → Option Int → Hp → VK → Prop := fun x lo hi H Q => rSlA K x lo hi H Q ∨ (fun x lo hi H Q => rSlL K x lo hi H Q ∨ rSlS x lo hi H Q) x lo hi H Q
theorem sl_all {X : Cx} : SlR X (rSlAll X.K) := SlR.or sl_tupA (SlR.or sl_list sl_str)
theorem cutV_whole (xs : List V) (lo hi : Option Int) (h : HT.sIx xs.length 0 lo = 0 ∧ HT.sIx xs.length xs.length hi = xs.length) : cutV xs lo hi = xs := by
  unfold cutV
  rw [h.1, h.2, List.drop_zero, Nat.sub_zero, List.take_length]
theorem oSl_ok {K : PySem.W.Frag} {mg : MG} {W : WX} {φ : List Addr} {S : Sto} {H : Hp} {σ : L2.St} {x : V} {d : D} {lo hi : Option Int} {Q : VK} (s : Sr K mg φ S H) (r : Rp K mg φ H x d) (p : post (Rp K mg) K mg W φ H σ Q (oSl d lo hi S)) : rSlAll K x lo hi H Q := by
  unfold oSl at p
  split at p
  · cases r with
    | tup t rs =>
      refine .inl ⟨_, _, rfl, t.sq, fun h => ?_, fun _ q hq => ?_⟩
      · have rc := rs.cut lo hi
        rw [cutV_whole _ _ _ h] at rc
        exact p φ H _ Ext.rfl' s (.tup t rc)
      · exact p φ _ _ (Ext.new hq) (s.new hq) (.tup (.inl (s.im hq)) ((rs.cut lo hi).mono (Ext.new hq)))
  · split at p
    · rename_i hz
      cases r
      exact .inr (.inr ⟨_, rfl, szOk.le hz, p φ H _ Ext.rfl' s (.str _)⟩)
    · exact p.elim
  · split at p
    · rename_i xs e0
      obtain ⟨l, us, rfl, g, rs⟩ := lstOf_ok s r e0
      exact .inr (.inl ⟨_, _, rfl, .of g, fun q hq => p φ _ _ (Ext.new hq) (s.new hq) (.lst (s.im hq) ((rs.cut lo hi).mono (Ext.new hq)))⟩)
    · exact p.elim
theorem de_sl {X : Cx} {W : WX} {a : Expr} {lo hi : Option Expr} {fa : EF} {fl fh : PF} {p2 pos : Pos} (ha : DE X W a fa) (hl : DO X W lo fl) (hh : DO X W hi fh) : DE X W (.Subscript a (.Slice lo hi none p2) pos) (eSl fa fl fh) :=
  pe_wk (pe_slice sl_all ha hl hh) fun σ H Q ⟨φ, ρ, S, er, sr, p⟩ => (lf.bind er sr p).imp fun x H1 ⟨φ1, S1, d, e1, sr1, r1, p1⟩ =>
    (lf.bind (er.mono e1) sr1 p1).imp fun l H2 ⟨φ2, S2, l', e2, sr2, r2, p2⟩ => (lf.bind ((er.mono e1).mono e2) sr2 p2).imp fun u H3 ⟨φ3, S3, u', e3, sr3, r3, p3⟩ => by
      cases r2; cases r3
      exact oSl_ok sr3 ((r1.mono e2).mono e3) p3
abbrev FF := List D → Sto → Res D
abbrev wF : WX := fun _ _ _ _ => False
/-- the promise of a def: what F says, exceptions too -/
def spF (K : PySem.W.Frag) (mg : MG) (n : Nat) (F : FF) : Sp := fun vs H Q E => vs.length = n ∧ ∃ φ ds S, Rps K mg φ H vs ds ∧ Sr K mg φ S H ∧ post (Rp K mg) K mg (fun c d _ H => E c d H) φ H [] Q (F ds S)
def eCall (F : FF) (a : AF) : EF := fun ρ S => (a ρ S).bind fun ds S1 => F ds S1
theorem tCall_of {K : PySem.W.Frag} {mg : MG} {W : WX} {n : Nat} {F : FF} {ga : AF} (hl : ∀ ρ S ds S', ga ρ S = .ok ds S' → ds.length = n) : ∀ σ H Q, lE K mg W (eCall F ga) σ H Q → tCallS (spF K mg n F) (WE W) (lA K mg W ga) σ H Q := fun σ H Q ⟨φ, ρ, S, er, sr, p⟩ => by
  have h2 : lA K mg W ga σ H fun vs H1 => (∃ φ1 S1 ds, Ext φ H φ1 H1 ∧ Sr K mg φ1 S1 H1 ∧ Rps K mg φ1 H1 vs ds ∧ post (Rp K mg) K mg W φ1 H1 σ Q (F ds S1) ∧ ds.length = n) := by
    refine ⟨φ, ρ, S, er, sr, ?_⟩
    unfold eCall at p
    cases e : ga ρ S with
    | ok ds S1 =>
      rw [e] at p
      exact fun φ' H' x e' s r => ⟨φ', S1, ds, e', s, r, post.mono e' p, hl _ _ _ _ e⟩
    | ex c S1 => rw [e] at p; exact p
    | no => rw [e] at p; exact p
  refine lf.imp (fun vs H1 h => ?_) h2
  obtain ⟨φ1, S1, ds, e1, sr1, r1, p1, l1⟩ := h
  refine ⟨by rw [r1.length, l1], φ1, ds, S1, r1, sr1, ?_⟩
  cases hF : F ds S1 with
  | ok a S2 => rw [hF] at p1; exact p1
  | ex c S2 => rw [hF] at p1; exact p1
  | no => rw [hF] at p1; exact p1
/-- how many arguments are written -/
def aLen (ga : AF) (n : Nat) : Prop := ∀ ρ S ds S', ga ρ S = .ok ds S' → ds.length = n
theorem aLen_nil : aLen aNil 0 := fun _ _ _ _ e => by cases e; rfl
theorem aLen_cons {fa : EF} {ga : AF} {n : Nat} (h : aLen ga n) : aLen (aCons fa ga) (n + 1) := fun ρ S ds S' e => by
  unfold aCons at e
  cases e1 : fa ρ S with
  | ok d S1 =>
    rw [e1] at e
    simp only [Res.bind] at e
    cases e2 : ga ρ S1 with
    | ok ds2 S2 =>
      rw [e2] at e
      cases e
      exact congrArg (· + 1) (h _ _ _ _ e2)
    | ex _ _ => rw [e2] at e; cases e
    | no => rw [e2] at e; cases e
  | ex _ _ => rw [e1] at e; cases e
  | no => rw [e1] at e; cases e
theorem de_call {X : Cx} {W : WX} {k n : Nat} {f : Addr} {fd : FuncData} {ps : List Str} {F : FF} {x : Str} {p pos : Pos} {e : Expr} {es : List Expr} {ga : AF}
    (G : FnOk X.prog X.w X.K X.mg X.base (L2.CX X.prog X.w) k f fd ps (spF X.K X.M n F)) (hr : Room k X.A) (tk : Takes X W) (hg : Gl X x) (hm : X.mg x = some (.ref f)) (hk : PySem.W.keepIn X.K (.ref f) = true) (hb : Binds X.K fd ps [])
    (ha : DA X W (e :: es) ga) (hl : aLen ga n) (hdb : (x == ("__debug__" : Str)) = false := by decide)
    (he : starEach (e :: es) X.env = (false, eval e X.env) :: starEach es X.env := by rfl) (hpl : (backTo pos (starEach es X.env)).any (·.1) = false := by rfl) :
    DE X W (.Call (.Name x p) (e :: es) [] pos) (eCall F ga) :=
  pe_wk (pe_callS G hr hg hm hk hb (fun σ => passAt tk σ) ha hdb he hpl) (tCall_of hl)
/-- built-in functions by values -/
def Cal (K : PySem.W.Frag) (mg : MG) (r : List V → Hp → VK → Prop) (c : FF) : Prop := ∀ (W : WX) (φ : List Addr) (S : Sto) (H : Hp) (σ : L2.St) (xs : List V) (ds : List D) (Q : VK), Sr K mg φ S H → Rps K mg φ H xs ds → post (Rp K mg) K mg W φ H σ Q (c ds S) → r xs H Q
def eB (c : FF) (a : AF) : EF := fun ρ S => (a ρ S).bind fun ds S1 => c ds S1
theorem tCB_of {K : PySem.W.Frag} {mg : MG} {W : WX} {r : List V → Hp → VK → Prop} {c : FF} {ga : AF} (hc : Cal K mg r c) : ∀ σ H Q, lE K mg W (eB c ga) σ H Q → tCB r (lA K mg W ga) σ H Q := fun σ H Q ⟨φ, ρ, S, er, sr, p⟩ =>
  (lf.bind er sr p).imp fun xs H1 ⟨φ1, S1, ds, e1, sr1, r1, p1⟩ => hc W φ1 S1 H1 σ xs ds Q sr1 r1 p1
end DV
set_option Elab.async false
set_option linter.all false
set_option maxRecDepth 100000
namespace DV
open PySem PySem.Spec PyProof.Rows L2
def cLen : FF
  | [.tup xs], S => .ok (.int xs.length) S
  | [.str z], S => if szOk z.length then .ok (.int z.length) S else .no
  | [d], S => match lstOf d S with
    | some xs => .ok (.int xs.length) S
    | none => .no
  | _, _ => .no
theorem cLen_ok {K : PySem.W.Frag} {mg : MG} : Cal K mg (fun xs H Q => ∃ x n, xs = [x] ∧ LenV K x H n ∧ Q (.int n) H) cLen := fun W φ S H σ xs ds Q s r p => by
  unfold cLen at p
  split at p
  · cases r with
    | cons a b =>
      cases b
      cases a with
      | tup t rs =>
        refine ⟨_, _, rfl, .inr ⟨_, t.sq, rfl⟩, ?_⟩
        rw [rs.length]
        exact p φ H _ Ext.rfl' s (.int _)
  · split at p
    · rename_i hz
      cases r with
      | cons a b =>
        cases b
        cases a
        exact ⟨_, _, rfl, ⟨szOk.le hz, rfl⟩, p φ H _ Ext.rfl' s (.int _)⟩
    · exact p.elim
  · split at p
    · rename_i xs e
      cases r with
      | cons a b =>
        cases b
        obtain ⟨l, us, rfl, g, rs⟩ := lstOf_ok s a e
        refine ⟨_, _, rfl, .inl ⟨_, .of g, rfl⟩, ?_⟩
        rw [rs.length]
        exact p φ H _ Ext.rfl' s (.int _)
    · exact p.elim
  · exact p.elim
def cAbs : FF
  | [.int i], S => .ok (.int (if i < 0 then -i else i)) S
  | _, _ => .no
theorem cAbs_ok {K : PySem.W.Frag} {mg : MG} : Cal K mg (fun xs H Q => ∃ i, xs = [.int i] ∧ Q (.int (if i < 0 then -i else i)) H) cAbs := fun W φ S H σ xs ds Q s r p => by
  unfold cAbs at p
  split at p
  · cases r with
    | cons a b => cases b; cases a; exact ⟨_, rfl, p φ H _ Ext.rfl' s (.int _)⟩
  · exact p.elim
def cInt : FF
  | [.int i], S => .ok (.int i) S
  | [.bl k], S => .ok (.int (if k then 1 else 0)) S
  | _, _ => .no
theorem cInt_ok {K : PySem.W.Frag} {mg : MG} : Cal K mg (fun xs H Q => (∃ i, xs = [.int i] ∧ Q (.int i) H) ∨ ∃ k, xs = [.bl k] ∧ Q (.int (if k then 1 else 0)) H) cInt := fun W φ S H σ xs ds Q s r p => by
  unfold cInt at p
  split at p
  · cases r with
    | cons a b => cases b; cases a; exact .inl ⟨_, rfl, p φ H _ Ext.rfl' s (.int _)⟩
  · cases r with
    | cons a b => cases b; cases a; exact .inr ⟨_, rfl, p φ H _ Ext.rfl' s (.int _)⟩
  · exact p.elim
def cGcd : FF
  | [.int i, .int j], S => .ok (.int ((Nat.gcd i.natAbs j.natAbs : Nat) : Int)) S
  | _, _ => .no
theorem cGcd_ok {K : PySem.W.Frag} {mg : MG} : Cal K mg rGcd cGcd := fun W φ S H σ xs ds Q s r p => by
  unfold cGcd at p
  split at p
  · cases r with
    | cons a b =>
      cases b with
      | cons c d => cases d; cases a; cases c; exact ⟨_, _, rfl, p φ H _ Ext.rfl' s (.int _)⟩
  · exact p.elim
def cMin : FF
  | [.int i, .int j], S => .ok (.int (if j < i then j else i)) S
  | _, _ => .no
def cMax : FF
  | [.int i, .int j], S => .ok (.int (if j > i then j else i)) S
  | _, _ => .no
/-- what class a datum is of -/
def tyD : D → Sto → Option String
  | .non, _ => some "NoneType"
  | .bl _, _ => some "bool"
  | .int _, _ => some "int"
  | .str _, _ => some "str"
  | .tup _, _ => some "tuple"
  | .lst _, _ => some "list"
  | .dct _, _ => some "dict"
  | .ob n, S => match S[n]? with
    | some (.lst _) => some "list"
    | some (.dic _) => some "dict"
    | _ => none
  | _, _ => none
theorem tyD_ok {K : PySem.W.Frag} {mg : MG} {φ : List Addr} {H : Hp} {S : Sto} {v : V} {d : D} {t : String} (s : Sr K mg φ S H) (r : Rp K mg φ H v d) (h : tyD d S = some t) : TyX K H v (.type t) := by
  cases d with
  | non => cases r; cases h; exact .base .non
  | bl b => cases r; cases h; exact .base (.bl b)
  | int b => cases r; cases h; exact .base (.int b)
  | str b => cases r; cases h; exact .base (.str b)
  | tup ds =>
    cases r with
    | tup q rs =>
      cases h
      rcases q.sq with (q | ⟨o, q⟩) | ⟨o, its, n, q, hc, _⟩
      · exact .base (.tup q)
      · exact .fTuple q
      · exact .kTuple q hc
  | lst ds =>
    cases r with
    | lst q rs => cases h; exact .base (.lst q.2)
  | dct ds =>
    cases r with
    | dct q kk rs => cases h; exact .base (.dK q.2)
  | ob n =>
    cases r with
    | ob hn =>
      simp only [tyD] at h
      split at h
      · rename_i e
        cases h
        obtain ⟨us, g, _⟩ := s.lst hn e
        exact .base (.lst g)
      · rename_i e
        cases h
        obtain ⟨b, h1, ws, g, _⟩ := s.at' n _ e
        rw [hn] at h1; cases h1
        exact .base (.dK g)
      · cases h
  | _ => cases h
def isD (d : D) (S : Sto) (b : String) : Option Bool := match tyD d S with
  | some t => kitB t b
  | none => none
/-- isinstance(e, T) -/
def eIs (a : EF) (b : String) : EF := fun ρ S => (a ρ S).bind fun d S1 => match isD d S1 b with
  | some k => .ok (.bl k) S1
  | none => .no
/-- isinstance(e, (T, U)) -/
def eIs2 (a : EF) (b c : String) : EF := fun ρ S => (a ρ S).bind fun d S1 => match tyD d S1 with
  | some t => (match kitB t b, kitB t c with
    | some k, some l => .ok (.bl (k || l)) S1
    | _, _ => .no)
  | none => .no
theorem isD_ok {K : PySem.W.Frag} {mg : MG} {φ : List Addr} {H : Hp} {S : Sto} {v : V} {d : D} {b : String} {k : Bool} (s : Sr K mg φ S H) (r : Rp K mg φ H v d) (h : isD d S b = some k) : ∃ t, TyX K H v (.type t) ∧ kitB t b = some k := by
  unfold isD at h
  split at h
  · rename_i t e
    exact ⟨t, tyD_ok s r e, h⟩
  · cases h
section
variable {X : Cx} {W : WX} {e : Expr} {fa : EF} {pos : Pos}
theorem de_isi {b : String} (h : PE X e (tCB (rIsi X.K) (tCons (lE X.K X.M W fa) (tCons (tC (.ty b)) tNil)))) : DE X W e (eIs fa b) :=
  pe_wk h fun σ H Q ⟨φ, ρ, S, er, sr, p⟩ => (lf.bind er sr p).imp fun x H1 ⟨φ1, S1, d, e1, sr1, r1, p1⟩ => by
    split at p1
    · rename_i k hk
      obtain ⟨t, h1, h2⟩ := isD_ok sr1 r1 hk
      exact ⟨x, .ty b, _, _, k, rfl, .ty b, h1, kit_ty h2, p1 φ1 H1 _ Ext.rfl' sr1 (.bl _)⟩
    · exact p1.elim
theorem de_isi2 {b c : String} (h : PE X e (tCB (rIsiT X.K) (tCons (lE X.K X.M W fa) (tCons (tTup (tCons (tC (.ty b)) (tCons (tC (.ty c)) tNil))) tNil)))) : DE X W e (eIs2 fa b c) :=
  pe_wk h fun σ H Q ⟨φ, ρ, S, er, sr, p⟩ => (lf.bind er sr p).imp fun x H1 ⟨φ1, S1, d, e1, sr1, r1, p1⟩ => by
    split at p1
    · rename_i t ht
      split at p1
      · rename_i k l hk hl
        refine ⟨by show 2 ≤ sizeLine; rw [sizeLine_eq]; decide, fun q hq => ?_⟩
        have e' := Ext.new (φ := φ1) (o := .tup [.ty b, .ty c]) hq
        refine ⟨x, q, _, _, [.type b, .type c], k || l, rfl, upd_same, .cons (.ty b) (.cons (.ty c) .nil), tyD_ok (sr1.new hq) (r1.mono e') ht, ?_, p1 φ1 _ _ e' (sr1.new hq) (.bl _)⟩
        exact kitAny_cons (kit_ty hk) (fun hb => by subst hb; exact kitAny_cons (kit_ty hl) (fun hb => by subst hb; rfl) fun hb => by subst hb; rfl) fun hb => by subst hb; rfl
      · exact p1.elim
    · exact p1.elim
end
def allBl : List D → Option (List Bool)
  | [] => some []
  | .bl b :: r => (allBl r).map (b :: ·)
  | _ :: _ => none
theorem allBl_ok {K : PySem.W.Frag} {mg : MG} {φ : List Addr} {H : Hp} : ∀ {vs : List V} {ds : List D} {bs : List Bool}, Rps K mg φ H vs ds → allBl ds = some bs → vs = bs.map V.bl
  | _, _, bs, .nil, h => by cases h; rfl
  | _, d :: r, bs, .cons a b, h => by
    cases d <;> simp only [allBl, Option.map_eq_some_iff, reduceCtorEq] at h
    obtain ⟨bs', h1, rfl⟩ := h
    cases a
    rw [allBl_ok b h1, List.map_cons]
def cAll : FF
  | [d], S => match lstOf d S with
    | some xs => match allBl xs with | some bs => .ok (.bl (bs.all id)) S | none => .no
    | none => .no
  | _, _ => .no
theorem cAll_ok {K : PySem.W.Frag} {mg : MG} : Cal K mg (rAll K) cAll := fun W φ S H σ xs ds Q s r p => by
  unfold cAll at p
  split at p
  · split at p
    · rename_i ys e0
      split at p
      · rename_i bs eb
        cases r with
        | cons a b =>
          cases b
          obtain ⟨l, us, rfl, g, rs⟩ := lstOf_ok s a e0
          have := allBl_ok rs eb
          subst this
          exact ⟨_, bs, rfl, .of g, p φ H _ Ext.rfl' s (.bl _)⟩
      · exact p.elim
    · exact p.elim
  · exact p.elim
def allInt : List D → Option (List Int)
  | [] => some []
  | .int b :: r => (allInt r).map (b :: ·)
  | _ :: _ => none
theorem allInt_ok {K : PySem.W.Frag} {mg : MG} {φ : List Addr} {H : Hp} : ∀ {vs : List V} {ds : List D} {bs : List Int}, Rps K mg φ H vs ds → allInt ds = some bs → vs = bs.map V.int
  | _, _, bs, .nil, h => by cases h; rfl
  | _, d :: r, bs, .cons a b, h => by
    cases d <;> simp only [allInt, Option.map_eq_some_iff, reduceCtorEq] at h
    obtain ⟨bs', h1, rfl⟩ := h
    cases a
    rw [allInt_ok b h1, List.map_cons]
def cSum : FF
  | [d], S => match lstOf d S with
    | some xs => match allInt xs with | some bs => .ok (.int bs.sum) S | none => .no
    | none => .no
  | _, _ => .no
theorem cSum_ok {K : PySem.W.Frag} {mg : MG} : Cal K mg (rSum K) cSum := fun W φ S H σ xs ds Q s r p => by
  unfold cSum at p
  split at p
  · split at p
    · rename_i ys e0
      split at p
      · rename_i bs eb
        cases r with
        | cons a b =>
          cases b
          obtain ⟨l, us, rfl, g, rs⟩ := lstOf_ok s a e0
          have := allInt_ok rs eb
          subst this
          exact ⟨_, bs, rfl, .of g, p φ H _ Ext.rfl' s (.int _)⟩
      · exact p.elim
    · exact p.elim
  · exact p.elim
/-- list(x): by value; cListS: an object of the store; tuple(x) -/
def cList : FF
  | [d], S => match seqOf d S with
    | some xs => .ok (.lst xs) S
    | none => .no
  | _, _ => .no
abbrev rListOf (K : PySem.W.Frag) : List V → Hp → VK → Prop := fun xs H Q => ∃ p ys, xs = [.ref p] ∧ (SqL K H p ys ∨ SqT K H p ys) ∧ ∀ l, H l = none → Q (.ref l) (upd H l (.lst ys))
theorem cList_ok {K : PySem.W.Frag} {mg : MG} : Cal K mg (rListOf K) cList := fun W φ S H σ xs ds Q s r p => by
  unfold cList at p
  split at p
  · split at p
    · rename_i ys e0
      cases r with
      | cons a b =>
        cases b
        obtain ⟨l, us, rfl, g, rs⟩ := seqOf_ok s a e0
        exact ⟨_, _, rfl, g, fun q hq => p φ _ _ (Ext.new hq) (s.new hq) (.lst (s.im hq) (rs.mono (Ext.new hq)))⟩
    · exact p.elim
  · exact p.elim
def cTuple : FF
  | [.tup xs], S => .ok (.tup xs) S
  | [d], S => match lstOf d S with
    | some xs => .ok (.tup xs) S
    | none => .no
  | _, _ => .no
theorem cTuple_ok {K : PySem.W.Frag} {mg : MG} : Cal K mg (fun xs H Q => ∃ p ys, xs = [.ref p] ∧ ((SqL K H p ys ∧ ∀ l, H l = none → Q (.ref l) (upd H l (.tup ys))) ∨ (SqT K H p ys ∧ Q (.ref p) H))) cTuple := fun W φ S H σ xs ds Q s r p => by
  unfold cTuple at p
  split at p
  · cases r with
    | cons a b =>
      cases b
      cases a with
      | tup t rs => exact ⟨_, _, rfl, .inr ⟨t.sq, p φ H _ Ext.rfl' s (.tup t rs)⟩⟩
  · split at p
    · rename_i ys e0
      cases r with
      | cons a b =>
        cases b
        obtain ⟨l, us, rfl, g, rs⟩ := lstOf_ok s a e0
        exact ⟨_, _, rfl, .inl ⟨.of g, fun q hq => p φ _ _ (Ext.new hq) (s.new hq) (.tup (.inl (s.im hq)) (rs.mono (Ext.new hq)))⟩⟩
    · exact p.elim
  · exact p.elim
def eApp (a b : EF) : EF := fun ρ S => (a ρ S).bind fun l S1 => match l with
  | .ob n => (match S1[n]? with
    | some (.lst _) => (b ρ S1).bind fun d S2 => (match S2[n]? with
      | some (.lst xs) => if szOk xs.length then .ok .non (S2.set n (.lst (xs ++ [d]))) else .no
      | _ => .no)
    | _ => .no)
  | _ => .no
def ePop (a : EF) : EF := fun ρ S => (a ρ S).bind fun l S1 => match l with
  | .ob n => match S1[n]? with
    | some (.lst xs) => match xs[xs.length - 1]? with
      | some d => .ok d (S1.set n (.lst xs.dropLast))
      | none => .no
    | _ => .no
  | _ => .no
theorem Rps.dropLast {K : PySem.W.Frag} {mg : MG} {φ : List Addr} {H : Hp} {vs : List V} {ds : List D} (r : Rps K mg φ H vs ds) : Rps K mg φ H vs.dropLast ds.dropLast := by
  rw [List.dropLast_eq_take, List.dropLast_eq_take, r.length]
  exact r.take _
section
variable {X : Cx} {W : WX} {o e : Expr} {fa fb : EF} {pos : Pos}
theorem de_app {w : Expr} (h : PE X w (tBM X.K "list" rAppend (lE X.K X.M W fa) (tCons (lE X.K X.M W fb) tNil))) : DE X W w (eApp fa fb) :=
  pe_wk h fun σ H Q ⟨φ, ρ, S, er, sr, p⟩ => (lf.bind er sr p).imp fun x H1 ⟨φ1, S1, d, e1, sr1, r1, p1⟩ => by
    split at p1
    · split at p1
      · rename_i ys hy
        cases r1 with
        | ob hn =>
          obtain ⟨us, g, rs⟩ := sr1.lst hn hy
          refine ⟨.inl ⟨rfl, _, .of g⟩, ?_⟩
          refine (lf.bind (er.mono e1) sr1 p1).imp fun y H2 ⟨φ2, S2, d2, e2, sr2, r2, p2⟩ => ?_
          split at p2
          · rename_i xs hx
            split at p2
            · rename_i hz
              have hn2 := e2.pre _ _ hn
              obtain ⟨us2, g2, rs2⟩ := sr2.lst hn2 hx
              refine ⟨_, us2, y, rfl, rfl, g2, by rw [rs2.length]; exact szOk.lt hz, ?_⟩
              have ex : Ext φ2 H2 φ2 (upd H2 _ (.lst (us2 ++ [y]))) := Ext.put hn2
              exact p2 φ2 _ _ ex (sr2.put hn2 ⟨_, upd_same, (rs2.append (.cons r2 .nil)).mono ex⟩) .non
            · exact p2.elim
          · exact p2.elim
      · exact p1.elim
    · exact p1.elim
theorem de_pop {w : Expr} (h : PE X w (tBM0 X.K "list" rPop (lE X.K X.M W fa))) : DE X W w (ePop fa) :=
  pe_wk h fun σ H Q ⟨φ, ρ, S, er, sr, p⟩ => (lf.bind er sr p).imp fun x H1 ⟨φ1, S1, d, e1, sr1, r1, p1⟩ => by
    split at p1
    · split at p1
      · rename_i xs hx
        split at p1
        · rename_i d hd
          cases r1 with
          | ob hn =>
            obtain ⟨us, g, rs⟩ := sr1.lst hn hx
            obtain ⟨v, hv, rv⟩ := rs.get hd
            rw [← rs.length] at hv
            refine ⟨.inl ⟨rfl, _, .of g⟩, _, us, v, rfl, rfl, g, hv, ?_⟩
            have ex : Ext φ1 H1 φ1 (upd H1 _ (.lst us.dropLast)) := Ext.put hn
            exact p1 φ1 _ _ ex (sr1.put hn ⟨_, upd_same, rs.dropLast.mono ex⟩) (rv.mono ex)
        · exact p1.elim
      · exact p1.elim
    · exact p1.elim
end
end DV
set_option Elab.async false
set_option linter.all false
set_option maxRecDepth 100000
namespace DV
open PySem PySem.Spec PyProof.Rows L2
inductive Tg where
  | nm (i : Nat)
  | tp (ts : List Tg)
  | ls (ts : List Tg)
mutual
def Tg.put : Tg → D → Lc → Sto → Option Lc
  | .nm i, d, ρ, _ => some (ρ.set i (some d))
  | .tp ts, d, ρ, S => match seqOf d S with
    | some ds => Tg.puts ts ds ρ S
    | none => none
  | .ls ts, d, ρ, S => match lstOf d S with
    | some ds => Tg.puts ts ds ρ S
    | none => none
def Tg.puts : List Tg → List D → Lc → Sto → Option Lc
  | [], [], ρ, _ => some ρ
  | t :: ts, d :: ds, ρ, S => match Tg.put t d ρ S with
    | some ρ' => Tg.puts ts ds ρ' S
    | none => none
  | _, _, _, _ => none
end
mutual
def gOf (K : PySem.W.Frag) : Tg → TG
  | .nm i => gName i
  | .tp ts => fun v σ H Q => gTup K ts.length (gsOf K ts) v σ H Q ∨ gLst K ts.length (gsOf K ts) v σ H Q
  | .ls ts => gLst K ts.length (gsOf K ts)
def gsOf (K : PySem.W.Frag) : List Tg → TGs
  | [] => gNil
  | t :: ts => gCons (gOf K t) (gsOf K ts)
end
mutual
def Tg.slots : Tg → List Nat
  | .nm i => [i]
  | .tp ts => Tg.slotss ts
  | .ls ts => Tg.slotss ts
def Tg.slotss : List Tg → List Nat
  | [] => []
  | t :: ts => Tg.slots t ++ Tg.slotss ts
end
/-- alike but at these slots -/
def SameBut (vs : List Nat) (σ σ' : L2.St) : Prop := σ'.length = σ.length ∧ ∀ j, j ∉ vs → σ'[j]? = σ[j]?
theorem SameBut.refl {vs : List Nat} {σ : L2.St} : SameBut vs σ σ := ⟨rfl, fun _ _ => rfl⟩
theorem SameBut.trans {vs : List Nat} {σ σ1 σ2 : L2.St} (a : SameBut vs σ σ1) (b : SameBut vs σ1 σ2) : SameBut vs σ σ2 := ⟨b.1.trans a.1, fun j h => (b.2 j h).trans (a.2 j h)⟩
theorem SameBut.mono {vs ws : List Nat} {σ σ1 : L2.St} (a : SameBut vs σ σ1) (h : ∀ j ∈ vs, j ∈ ws) : SameBut ws σ σ1 := ⟨a.1, fun j hj => a.2 j fun z => hj (h j z)⟩
theorem wipe_at {σ : L2.St} {i : Nat} : ∀ {vs : List Nat}, (wipe σ vs)[i]? = if i ∈ vs ∧ i < σ.length then some none else σ[i]?
  | [] => by simp [wipe]
  | v :: vs => by
    unfold wipe
    rw [List.getElem?_set, wipe_length, wipe_at]
    by_cases hv : v = i
    · subst hv
      by_cases hl : v < σ.length
      · simp [hl]
      · rw [if_pos rfl, if_neg hl, if_neg (fun z => hl z.2), List.getElem?_eq_none (by omega)]
    · rw [if_neg hv]
      have e : (i ∈ v :: vs ∧ i < σ.length) ↔ (i ∈ vs ∧ i < σ.length) := by
        constructor
        · rintro ⟨h1, h2⟩
          rcases List.mem_cons.mp h1 with z | z
          · exact absurd z.symm hv
          · exact ⟨z, h2⟩
        · rintro ⟨h1, h2⟩
          exact ⟨List.mem_cons_of_mem _ h1, h2⟩
      by_cases hc : i ∈ vs ∧ i < σ.length
      · rw [if_pos hc, if_pos (e.mpr hc)]
      · rw [if_neg hc, if_neg (fun z => hc (e.mp z))]
theorem SameBut.wipe {vs : List Nat} {σ σ' : L2.St} (h : SameBut vs σ σ') : wipe σ' vs = wipe σ vs := by
  refine List.ext_getElem? fun i => ?_
  rw [wipe_at, wipe_at, h.1]
  by_cases hc : i ∈ vs ∧ i < σ.length
  · rw [if_pos hc, if_pos hc]
  · rw [if_neg hc, if_neg hc]
    by_cases hi : i ∈ vs
    · have hl : σ.length ≤ i := by
        have : ¬ i < σ.length := fun z => hc ⟨hi, z⟩
        omega
      rw [List.getElem?_eq_none (by rw [h.1]; exact hl), List.getElem?_eq_none hl]
    · exact h.2 i hi
section
variable {K : PySem.W.Frag} {mg : MG} {φ : List Addr} {S : Sto} {H : Hp}
mutual
theorem gOf_ok (s : Sr K mg φ S H) : ∀ (t : Tg) (v : V) (d : D) (σ : L2.St) (ρ ρ' : Lc) (Q : L2.St → Hp → Prop), Er K mg φ H σ ρ → Rp K mg φ H v d → t.put d ρ S = some ρ' → (∀ σ', Er K mg φ H σ' ρ' → SameBut t.slots σ σ' → Q σ' H) → gOf K t v σ H Q
  | .nm i, v, d, σ, ρ, ρ', Q, er, r, h, q => by
    cases h
    refine q _ (er.set r i) ⟨by simp, fun j hj => ?_⟩
    rw [List.getElem?_set, if_neg]
    rintro rfl
    exact hj (by simp [Tg.slots])
  | .tp ts, v, d, σ, ρ, ρ', Q, er, r, h, q => by
    simp only [Tg.put] at h
    split at h
    · rename_i ds e
      obtain ⟨l, us, rfl, g, rs⟩ := seqOf_ok s r e
      obtain ⟨hl, hg⟩ := gsOf_ok s ts _ ds σ ρ ρ' Q er rs h q
      rcases g with g | g
      · exact .inr ⟨_, _, rfl, g, by rw [rs.length, hl], hg⟩
      · exact .inl ⟨_, _, rfl, g, by rw [rs.length, hl], hg⟩
    · cases h
  | .ls ts, v, d, σ, ρ, ρ', Q, er, r, h, q => by
    simp only [Tg.put] at h
    split at h
    · rename_i ds e
      obtain ⟨l, us, rfl, g, rs⟩ := lstOf_ok s r e
      obtain ⟨hl, hg⟩ := gsOf_ok s ts _ ds σ ρ ρ' Q er rs h q
      exact ⟨_, _, rfl, .of g, by rw [rs.length, hl], hg⟩
    · cases h
theorem gsOf_ok (s : Sr K mg φ S H) : ∀ (ts : List Tg) (vs : List V) (ds : List D) (σ : L2.St) (ρ ρ' : Lc) (Q : L2.St → Hp → Prop), Er K mg φ H σ ρ → Rps K mg φ H vs ds → Tg.puts ts ds ρ S = some ρ' → (∀ σ', Er K mg φ H σ' ρ' → SameBut (Tg.slotss ts) σ σ' → Q σ' H) → ds.length = ts.length ∧ gsOf K ts vs σ H Q
  | [], vs, ds, σ, ρ, ρ', Q, er, r, h, q => by
    cases ds with
    | nil =>
      cases r
      cases h
      exact ⟨rfl, rfl, q σ er .refl⟩
    | cons _ _ => cases h
  | t :: ts, vs, ds, σ, ρ, ρ', Q, er, r, h, q => by
    cases ds with
    | nil => cases h
    | cons d ds =>
      cases r with
      | cons r1 r2 =>
        simp only [Tg.puts] at h
        split at h
        · rename_i ρ1 h1
          have key : ∀ σ1, Er K mg φ H σ1 ρ1 → SameBut t.slots σ σ1 → ds.length = ts.length ∧ gsOf K ts _ σ1 H Q := fun σ1 er1 sb =>
            gsOf_ok s ts _ ds σ1 ρ1 ρ' Q er1 r2 h fun σ' er' sb' => q σ' er' ((sb.mono fun j hj => List.mem_append_left _ hj).trans (sb'.mono fun j hj => List.mem_append_right _ hj))
          refine ⟨?_, _, _, rfl, gOf_ok s t _ d σ ρ ρ1 _ er r1 h1 fun σ1 er1 sb => (key σ1 er1 sb).2⟩
          have : ∃ n, ds.length = n ∧ ts.length = n := by
            by_cases hz : ds.length = ts.length
            · exact ⟨_, rfl, hz.symm⟩
            · exfalso
              have := gOf_ok s t _ d σ ρ ρ1 (fun σ1 _ => ds.length = ts.length) er r1 h1 fun σ1 er1 sb => (key σ1 er1 sb).1
              exact hz (gOf_triv t _ σ H _ this)
          obtain ⟨n, h1, h2⟩ := this
          rw [List.length_cons, List.length_cons, h1, h2]
        · cases h
theorem gOf_triv : ∀ (t : Tg) (v : V) (σ : L2.St) (H : Hp) (p : Prop), gOf K t v σ H (fun _ _ => p) → p
  | .nm i, v, σ, H, p, h => h
  | .tp ts, v, σ, H, p, .inl ⟨_, _, _, _, _, h⟩ => gsOf_triv ts _ σ H p h
  | .tp ts, v, σ, H, p, .inr ⟨_, _, _, _, _, h⟩ => gsOf_triv ts _ σ H p h
  | .ls ts, v, σ, H, p, ⟨_, _, _, _, _, h⟩ => gsOf_triv ts _ σ H p h
theorem gsOf_triv : ∀ (ts : List Tg) (vs : List V) (σ : L2.St) (H : Hp) (p : Prop), gsOf K ts vs σ H (fun _ _ => p) → p
  | [], _, _, _, p, ⟨_, h⟩ => h
  | t :: ts, _, σ, H, p, ⟨v, r, _, h⟩ => by
    have h2 : gOf K t v σ H (fun _ _ => p) := gOf_imp t v σ H _ _ (fun σ' H' z => gsOf_triv ts _ σ' H' p z) h
    exact gOf_triv t v σ H p h2
theorem gOf_imp : ∀ (t : Tg) (v : V) (σ : L2.St) (H : Hp) (Q Q' : L2.St → Hp → Prop), (∀ σ H, Q σ H → Q' σ H) → gOf K t v σ H Q → gOf K t v σ H Q'
  | .nm i, v, σ, H, Q, Q', hq, h => hq _ _ h
  | .tp ts, v, σ, H, Q, Q', hq, .inl ⟨a, xs, h1, h2, h3, h⟩ => .inl ⟨a, xs, h1, h2, h3, gsOf_imp ts _ σ H Q Q' hq h⟩
  | .tp ts, v, σ, H, Q, Q', hq, .inr ⟨a, xs, h1, h2, h3, h⟩ => .inr ⟨a, xs, h1, h2, h3, gsOf_imp ts _ σ H Q Q' hq h⟩
  | .ls ts, v, σ, H, Q, Q', hq, ⟨a, xs, h1, h2, h3, h⟩ => ⟨a, xs, h1, h2, h3, gsOf_imp ts _ σ H Q Q' hq h⟩
theorem gsOf_imp : ∀ (ts : List Tg) (vs : List V) (σ : L2.St) (H : Hp) (Q Q' : L2.St → Hp → Prop), (∀ σ H, Q σ H → Q' σ H) → gsOf K ts vs σ H Q → gsOf K ts vs σ H Q'
  | [], _, σ, H, Q, Q', hq, ⟨h1, h⟩ => ⟨h1, hq _ _ h⟩
  | t :: ts, _, σ, H, Q, Q', hq, ⟨v, r, h1, h⟩ => ⟨v, r, h1, gOf_imp t v σ H _ _ (fun σ' H' z => gsOf_imp ts _ σ' H' Q Q' hq z) h⟩
end
end
inductive Itd where
  | lst (n : Nat)
  | vlst (xs : List D)
  | tup (xs : List D)
  | rng (lo : Int) (n : Nat)
  | zipT (xs ys : List D)
  | zipV (xs ys : List D)
  | zipO (xs : List D) (n : Nat)
  | str (s : Str)
/-- the item at a turn: none: stuck; some none: it is over -/
def Itd.at' : Itd → Nat → Sto → Option (Option D)
  | .lst n, i, S => match S[n]? with | some (.lst xs) => some xs[i]? | _ => none
  | .vlst xs, i, _ => some xs[i]?
  | .tup xs, i, _ => some xs[i]?
  | .rng lo n, i, _ => some (if i < n then some (.int (lo + i)) else none)
  | .zipT xs ys, i, _ => match xs[i]?, ys[i]? with | some x, some y => some (some (.tup [x, y])) | _, _ => some none
  | .zipV xs ys, i, _ => match xs[i]?, ys[i]? with | some x, some y => some (some (.tup [x, y])) | _, _ => some none
  | .zipO xs n, i, S => match S[n]? with | some (.lst ys) => (match xs[i]?, ys[i]? with | some x, some y => some (some (.tup [x, y])) | _, _ => some none) | _ => none
  | .str s, i, _ => some (s.cps[i]?.map fun c => .str ⟨#[c]⟩)
def Itd.size : Itd → Sto → Nat
  | .lst n, S => match S[n]? with | some (.lst xs) => xs.length | _ => 0
  | .vlst xs, _ => xs.length
  | .tup xs, _ => xs.length
  | .rng _ n, _ => n
  | .zipT xs ys, _ => xs.length
  | .zipV xs ys, _ => xs.length
  | .zipO xs _, _ => xs.length
  | .str s, _ => s.cps.size
def ItR (K : PySem.W.Frag) (mg : MG) : Rl Itd It := fun φ0 H0 J it => ∀ (i : Nat) (φ : List Addr) (S : Sto) (H : Hp), Ext φ0 H0 φ H → Sr K mg φ S H → match it.at' i S with
  | none => True
  | some none => J.stop i H
  | some (some d) => J.go i H ∧ ∀ x H', J.yld i H x H' → Ext φ H φ H' ∧ Sr K mg φ S H' ∧ Rp K mg φ H' x d
abbrev IF := Lc → Sto → Res Itd
def DI (X : Cx) (W : WX) (tg iter : Expr) (f : IF) : Prop := PI X tg iter (lf (ItR X.K X.M) X.K X.M W f)
theorem pi_wk {X : Cx} {tg iter : Expr} {t t' : TI} (h : PI X tg iter t) (q : ∀ σ H Q, t' σ H Q → t σ H Q) : PI X tg iter t' := ⟨fun pins s σ H Q I z => h.run pins s σ H Q I (q σ H Q z)⟩
def iRng (a : AF) : IF := fun ρ S => (a ρ S).bind fun ds S1 => match ds with
  | [.int j] => if gd (-(2 ^ 62) ≤ j ∧ j < 2 ^ 62) then .ok (.rng 0 j.toNat) S1 else .no
  | [.int i, .int j] => if gd (-(2 ^ 62) ≤ i ∧ i < 2 ^ 62 ∧ -(2 ^ 62) ≤ j ∧ j < 2 ^ 62) then .ok (.rng i (j - i).toNat) S1 else .no
  | _ => .no
def iZip (a : AF) : IF := fun ρ S => (a ρ S).bind fun ds S1 => match ds with
  | [.tup xs, .tup ys] => .ok (.zipT xs ys) S1
  | [.lst xs, .lst ys] => .ok (.zipV xs ys) S1
  | [.lst xs, .ob n] => match S1[n]? with | some (.lst _) => .ok (.zipO xs n) S1 | _ => .no
  | _ => .no
section
variable {X : Cx} {W : WX} {e : Expr} {fa : EF} {ga : AF} {tg iter : Expr}
/-- a list, a tuple or a text, as it comes -/
def iSeq (a : EF) : IF := fun ρ S => (a ρ S).bind fun d S1 => match d with
  | .tup xs => .ok (.tup xs) S1
  | .str s => .ok (.str s) S1
  | .lst xs => .ok (.vlst xs) S1
  | .ob n => match S1[n]? with | some (.lst _) => .ok (.lst n) S1 | _ => .no
  | _ => .no
def iSeqT (K : PySem.W.Frag) (tl : TE) : TI := fun σ H R => tl σ H fun x H1 => (∃ a, x = .ref a ∧ (∃ xs, SqL K H1 a xs) ∧ R (Itl K a) H1) ∨ (∃ a, x = .ref a ∧ (∃ xs, SqT K H1 a xs) ∧ R (Itt K a) H1) ∨ ∃ z, x = .str z ∧ R (Its z) H1
theorem pi_seq {X : Cx} {tg l : Expr} {tl : TE} (hl : PE X l tl) : PI X tg l (iSeqT X.K tl) := by
  refine ⟨fun pins s σ H R I h => ?_⟩
  refine thn (hl.run pins s σ H _ I h) fun v s1 ⟨x, H1, I1, r1, q1⟩ => ?_
  rcases q1 with ⟨a, e, ⟨xs, hq⟩, q⟩ | ⟨a, e, ⟨xs, hq⟩, q⟩ | ⟨x, ex, q⟩
  · subst e
    cases r1
    obtain ⟨its, rv, p, hz⟩ := I1.list hq
    refine wpAny_pyIter_list p.isList ?_
    refine ⟨s1.heap.objs.size, [s1.heap.objs.size], _, _, H1, rfl, I1.kept (t' := s1.toks) fun b o e => Heap.get?_push_of_some _ e, turn_list a _, ⟨_, Heap.get?_push_size _ rfl, rfl, rfl⟩, fun b hb => ?_, q⟩
    have e : b = s1.heap.objs.size := by simpa using hb
    subst e
    exact I1.fpOk (Nat.le_refl _) (I1.hok.fresh (Nat.le_refl _))
  · subst e
    cases r1
    obtain ⟨its, rv, p, hz⟩ := I1.tuple hq
    refine wpAny_pyIter_tuple (show s1.heap.IsTuple a its.toArray from p) ?_
    refine ⟨s1.heap.objs.size, [s1.heap.objs.size], _, _, H1, rfl, I1.kept (t' := s1.toks) fun b o e => Heap.get?_push_of_some _ e, turn_tuple a _, ⟨_, Heap.get?_push_size _ rfl, rfl, rfl⟩, fun b hb => ?_, q⟩
    have e : b = s1.heap.objs.size := by simpa using hb
    subst e
    exact I1.fpOk (Nat.le_refl _) (I1.hok.fresh (Nat.le_refl _))
  · subst ex
    obtain ⟨t, rfl⟩ := r1
    cases ha : x.cps.all (· < 128)
    · exact wpAny_pyIter_wide ha (pi_one (tk := s1.toks) I1 _ (turn_str _ x t "str_iterator" (.inr rfl)) ⟨_, Heap.get?_push_size _ rfl, rfl, rfl⟩ q)
    · exact wpAny_pyIter_ascii ha (pi_one (tk := s1.toks) I1 _ (turn_str _ x t "str_ascii_iterator" (.inl rfl)) ⟨_, Heap.get?_push_size _ rfl, rfl, rfl⟩ q)
/-- what each kind of thing yields -/
theorem ItR.tup {K : PySem.W.Frag} {mg : MG} {φ1 : List Addr} {H1 : Hp} {a : Addr} {xs : List V} {ds : List D} (t : ImT K φ1 H1 a xs) (rs : Rps K mg φ1 H1 xs ds) : ItR K mg φ1 H1 (Itt K a) (.tup ds) := fun i φ S H ex sr => by
  have t' := (t.mono ex).sq
  have rs' := rs.mono ex
  unfold Itd.at'
  simp only
  cases e2 : ds[i]? with
  | none => exact ⟨_, t', by rw [rs'.length]; exact List.getElem?_eq_none_iff.mp e2⟩
  | some d =>
    obtain ⟨v, hv, rv⟩ := rs'.get e2
    refine ⟨⟨_, v, t', hv⟩, fun x H' hh => ?_⟩
    obtain ⟨rfl, hx⟩ := hh
    have := hx _ t'
    rw [hv] at this
    cases this
    exact ⟨Ext.rfl', sr, rv⟩
theorem ItR.vlst {K : PySem.W.Frag} {mg : MG} {φ1 : List Addr} {H1 : Hp} {a : Addr} {xs : List V} {ds : List D} (t : Im φ1 H1 a (.lst xs)) (rs : Rps K mg φ1 H1 xs ds) : ItR K mg φ1 H1 (Itl K a) (.vlst ds) := fun i φ S H ex sr => by
  have t' := ex.im t
  have rs' := rs.mono ex
  unfold Itd.at'
  simp only
  cases e2 : ds[i]? with
  | none => exact ⟨_, .of t'.2, by rw [rs'.length]; exact List.getElem?_eq_none_iff.mp e2⟩
  | some d =>
    obtain ⟨v, hv, rv⟩ := rs'.get e2
    refine ⟨⟨_, v, .of t'.2, hv⟩, fun x H' hh => ?_⟩
    obtain ⟨rfl, hx⟩ := hh
    have := hx _ (.of t'.2)
    rw [hv] at this
    cases this
    exact ⟨Ext.rfl', sr, rv⟩
theorem ItR.olst {K : PySem.W.Frag} {mg : MG} {φ1 : List Addr} {H1 : Hp} {a : Addr} {n : Nat} (hn : φ1[n]? = some a) : ItR K mg φ1 H1 (Itl K a) (.lst n) := fun i φ S H ex sr => by
  have hn' := ex.pre _ _ hn
  cases e : S[n]? with
  | none => simp only [Itd.at', e]
  | some o =>
    cases o with
    | lst ds =>
      obtain ⟨us, g, rs⟩ := sr.lst hn' e
      simp only [Itd.at', e]
      cases e2 : ds[i]? with
      | none => exact ⟨us, .of g, by rw [rs.length]; exact List.getElem?_eq_none_iff.mp e2⟩
      | some d =>
        obtain ⟨v, hv, rv⟩ := rs.get e2
        refine ⟨⟨us, v, .of g, hv⟩, fun x H' hh => ?_⟩
        obtain ⟨rfl, hx⟩ := hh
        have := hx us (.of g)
        rw [hv] at this
        cases this
        exact ⟨Ext.rfl', sr, rv⟩
    | _ => simp only [Itd.at', e]
theorem ItR.str {K : PySem.W.Frag} {mg : MG} {φ1 : List Addr} {H1 : Hp} {z : Str} : ItR K mg φ1 H1 (Its z) (.str z) := fun i φ S H ex sr => by
  unfold Itd.at'
  simp only
  cases e : z.cps[i]? with
  | none =>
    simp only [Option.map_none]
    exact Array.getElem?_eq_none_iff.mp e
  | some c =>
    simp only [Option.map_some]
    refine ⟨(Array.getElem?_eq_some_iff.mp e).1, fun x H' hh => ?_⟩
    obtain ⟨rfl, c', h1, rfl⟩ := hh
    rw [e] at h1
    cases h1
    exact ⟨Ext.rfl', sr, .str _⟩
theorem di_seq (h : PE X iter (lE X.K X.M W fa)) : DI X W tg iter (iSeq fa) :=
  pi_wk (pi_seq h) fun σ H Q ⟨φ, ρ, S, er, sr, p⟩ => (lf.bind er sr p).imp fun x H1 ⟨φ1, S1, d, e1, sr1, r1, p1⟩ => by
    cases d with
    | tup ds =>
      cases r1 with
      | tup t rs => exact .inr (.inl ⟨_, rfl, ⟨_, t.sq⟩, p1 φ1 H1 _ Ext.rfl' sr1 (.tup t rs)⟩)
    | str z =>
      cases r1
      exact .inr (.inr ⟨z, rfl, p1 φ1 H1 _ Ext.rfl' sr1 .str⟩)
    | lst ds =>
      cases r1 with
      | lst t rs => exact .inl ⟨_, rfl, ⟨_, .of t.2⟩, p1 φ1 H1 _ Ext.rfl' sr1 (.vlst t rs)⟩
    | ob n =>
      simp only at p1
      split at p1
      · rename_i ys hy
        cases r1 with
        | ob hn =>
          obtain ⟨us, g, rs⟩ := sr1.lst hn hy
          exact .inl ⟨_, rfl, ⟨us, .of g⟩, p1 φ1 H1 _ Ext.rfl' sr1 (.olst hn)⟩
      · exact p1.elim
    | _ => exact p1.elim
theorem ItR.rng {K : PySem.W.Frag} {mg : MG} {lo : Int} {n : Nat} {φ1 : List Addr} {H1 : Hp} : ItR K mg φ1 H1 (Itr lo n) (.rng lo n) := fun i φ S H ex sr => by
  unfold Itd.at'
  simp only
  by_cases h : i < n
  · rw [if_pos h]
    exact ⟨h, fun x H' ⟨e1, e2⟩ => by subst e1; subst e2; exact ⟨Ext.rfl', sr, .int _⟩⟩
  · rw [if_neg h]
    exact Nat.le_of_not_lt h
theorem di_rng2 (h : PI X tg iter (iRng2 (lA X.K X.M W ga))) (hl : aLen ga 2) : DI X W tg iter (iRng ga) :=
  pi_wk h fun σ H Q ⟨φ, ρ, S, er, sr, p⟩ => by
    have p0 : post (ItR X.K X.M) X.K X.M W φ H σ Q ((ga ρ S).bind fun ds S1 => match ds with
        | [.int i, .int j] => if gd (-(2 ^ 62) ≤ i ∧ i < 2 ^ 62 ∧ -(2 ^ 62) ≤ j ∧ j < 2 ^ 62) then .ok (.rng i (j - i).toNat) S1 else .no
        | _ => .no) := by
      unfold iRng at p
      cases e : ga ρ S with
      | ok ds S1 =>
        rw [e] at p
        have l1 := hl _ _ _ _ e
        match ds, l1 with
        | [d, d2], _ => cases d <;> cases d2 <;> exact p
      | ex c S1 => rw [e] at p; exact p
      | no => rw [e] at p; exact p
    refine (lf.bind er sr p0).imp fun x H1 ⟨φ1, S1, ds, e1, sr1, r1, p1⟩ => ?_
    split at p1
    · rename_i i j
      split at p1
      · rename_i hj
        cases r1 with
        | cons a b =>
          cases b with
          | cons c d =>
            cases d
            cases a
            cases c
            exact ⟨i, j, rfl, of_gd hj, p1 φ1 H1 _ Ext.rfl' sr1 ItR.rng⟩
      · exact p1.elim
    · exact p1.elim
theorem di_zip (h : PI X tg iter (RZ.iZipA X.K (lA X.K X.M W ga))) : DI X W tg iter (iZip ga) :=
  pi_wk h fun σ H Q ⟨φ, ρ, S, er, sr, p⟩ => (lf.bind er sr p).imp fun x H1 ⟨φ1, S1, ds, e1, sr1, r1, p1⟩ => by
    split at p1
    · rename_i xs ys
      cases r1 with
      | cons a b =>
        cases b with
        | cons c d =>
          cases d
          cases a with
          | tup ta ra =>
            cases c with
            | tup tb rb =>
              refine ⟨_, _, _, _, rfl, .inr ⟨ta.sq, tb.sq, p1 φ1 H1 _ Ext.rfl' sr1 fun i φ S H ex sr => ?_⟩⟩
              have ta' := (ta.mono ex).sq
              have tb' := (tb.mono ex).sq
              have ra' := ra.mono ex
              have rb' := rb.mono ex
              unfold Itd.at'
              simp only
              cases ea : xs[i]? with
              | none => exact ⟨_, _, ta', tb', .inl (by rw [ra'.length]; exact List.getElem?_eq_none_iff.mp ea)⟩
              | some x =>
                cases eb : ys[i]? with
                | none => exact ⟨_, _, ta', tb', .inr (by rw [rb'.length]; exact List.getElem?_eq_none_iff.mp eb)⟩
                | some y =>
                  obtain ⟨v, hv, rv⟩ := ra'.get ea
                  obtain ⟨u, hu, ru⟩ := rb'.get eb
                  refine ⟨⟨_, _, v, u, ta', tb', hv, hu⟩, fun x H' hh => ?_⟩
                  obtain ⟨T, x1, y1, rfl, hT, rfl, f1, f2⟩ := hh
                  have g1 := f1 _ ta'
                  have g2 := f2 _ tb'
                  rw [hv] at g1; cases g1
                  rw [hu] at g2; cases g2
                  exact ⟨Ext.new hT, sr.new hT, .tup (.inl (sr.im hT)) (.cons (rv.mono (Ext.new hT)) (.cons (ru.mono (Ext.new hT)) .nil))⟩
    · rename_i xs ys
      cases r1 with
      | cons a b =>
        cases b with
        | cons c d =>
          cases d
          cases a with
          | lst ta ra =>
            cases c with
            | lst tb rb =>
              refine ⟨_, _, _, _, rfl, .inl ⟨.of ta.2, .of tb.2, p1 φ1 H1 _ Ext.rfl' sr1 fun i φ S H ex sr => ?_⟩⟩
              have ta' : SqL X.K H _ _ := .of (ex.im ta).2
              have tb' : SqL X.K H _ _ := .of (ex.im tb).2
              have ra' := ra.mono ex
              have rb' := rb.mono ex
              unfold Itd.at'
              simp only
              cases ea : xs[i]? with
              | none => exact ⟨_, _, ta', tb', .inl (by rw [ra'.length]; exact List.getElem?_eq_none_iff.mp ea)⟩
              | some x =>
                cases eb : ys[i]? with
                | none => exact ⟨_, _, ta', tb', .inr (by rw [rb'.length]; exact List.getElem?_eq_none_iff.mp eb)⟩
                | some y =>
                  obtain ⟨v, hv, rv⟩ := ra'.get ea
                  obtain ⟨u, hu, ru⟩ := rb'.get eb
                  refine ⟨⟨_, _, v, u, ta', tb', hv, hu⟩, fun x H' hh => ?_⟩
                  obtain ⟨T, x1, y1, rfl, hT, rfl, f1, f2⟩ := hh
                  have g1 := f1 _ ta'
                  have g2 := f2 _ tb'
                  rw [hv] at g1; cases g1
                  rw [hu] at g2; cases g2
                  exact ⟨Ext.new hT, sr.new hT, .tup (.inl (sr.im hT)) (.cons (rv.mono (Ext.new hT)) (.cons (ru.mono (Ext.new hT)) .nil))⟩
    · rename_i xs n
      split at p1
      · rename_i zs hz
        cases r1 with
        | cons a b =>
          cases b with
          | cons c d =>
            cases d
            cases a with
            | lst ta ra =>
              cases c with
              | ob hn =>
                obtain ⟨us, g0, _⟩ := sr1.lst hn hz
                refine ⟨_, _, _, _, rfl, .inl ⟨.of ta.2, .of g0, p1 φ1 H1 _ Ext.rfl' sr1 fun i φ S H ex sr => ?_⟩⟩
                have ta' : SqL X.K H _ _ := .of (ex.im ta).2
                have ra' := ra.mono ex
                have hn' := ex.pre _ _ hn
                cases e : S[n]? with
                | none => simp only [Itd.at', e]
                | some o =>
                  cases o with
                  | lst ys =>
                    obtain ⟨us, g, rb'⟩ := sr.lst hn' e
                    have tb' : SqL X.K H _ us := .of g
                    simp only [Itd.at', e]
                    cases ea : xs[i]? with
                    | none => exact ⟨_, _, ta', tb', .inl (by rw [ra'.length]; exact List.getElem?_eq_none_iff.mp ea)⟩
                    | some x =>
                      cases eb : ys[i]? with
                      | none => exact ⟨_, _, ta', tb', .inr (by rw [rb'.length]; exact List.getElem?_eq_none_iff.mp eb)⟩
                      | some y =>
                        obtain ⟨v, hv, rv⟩ := ra'.get ea
                        obtain ⟨u, hu, ru⟩ := rb'.get eb
                        refine ⟨⟨_, _, v, u, ta', tb', hv, hu⟩, fun x H' hh => ?_⟩
                        obtain ⟨T, x1, y1, rfl, hT, rfl, f1, f2⟩ := hh
                        have g1 := f1 _ ta'
                        have g2 := f2 _ tb'
                        rw [hv] at g1; cases g1
                        rw [hu] at g2; cases g2
                        exact ⟨Ext.new hT, sr.new hT, .tup (.inl (sr.im hT)) (.cons (rv.mono (Ext.new hT)) (.cons (ru.mono (Ext.new hT)) .nil))⟩
                  | _ => simp only [Itd.at', e]
      · exact p1.elim
    · exact p1.elim
theorem di_rng1 (h : PI X tg iter (iRng1 (lA X.K X.M W ga))) (hl : aLen ga 1) : DI X W tg iter (iRng ga) :=
  pi_wk h fun σ H Q ⟨φ, ρ, S, er, sr, p⟩ => by
    have p0 : post (ItR X.K X.M) X.K X.M W φ H σ Q ((ga ρ S).bind fun ds S1 => match ds with
        | [.int j] => if gd (-(2 ^ 62) ≤ j ∧ j < 2 ^ 62) then .ok (.rng 0 j.toNat) S1 else .no
        | _ => .no) := by
      unfold iRng at p
      cases e : ga ρ S with
      | ok ds S1 =>
        rw [e] at p
        have l1 := hl _ _ _ _ e
        match ds, l1 with
        | [d], _ => cases d <;> exact p
      | ex c S1 => rw [e] at p; exact p
      | no => rw [e] at p; exact p
    refine (lf.bind er sr p0).imp fun x H1 ⟨φ1, S1, ds, e1, sr1, r1, p1⟩ => ?_
    split at p1
    · rename_i j
      split at p1
      · rename_i hj
        cases r1 with
        | cons a b =>
          cases b
          cases a
          exact ⟨j, rfl, (of_gd hj).1, (of_gd hj).2, p1 φ1 H1 _ Ext.rfl' sr1 ItR.rng⟩
      · exact p1.elim
    · exact p1.elim
end
end DV
set_option Elab.async false
set_option linter.all false
set_option maxRecDepth 100000
namespace DV
open PySem PySem.Spec PyProof.Rows L2
inductive SR where
  | nx (ρ : Lc) (S : Sto)
  | rt (d : D) (S : Sto)
  | bk (ρ : Lc) (S : Sto)
  | ct (ρ : Lc) (S : Sto)
  | ex (c : Str) (ρ : Lc) (S : Sto)
  | no
abbrev SF := Lc → Sto → SR
def Res.sb {α : Type} (r : Res α) (ρ : Lc) (k : α → Sto → SR) : SR :=
  match r with
  | .ok a S => k a S
  | .ex c S => .ex c ρ S
  | .no => .no
section
variable (K : PySem.W.Frag) (mg : MG) (W : WX)
def postS (φ : List Addr) (H : Hp) (N : Ends) : SR → Prop
  | .nx ρ S => ∀ φ' σ' H', Ext φ H φ' H' → Sr K mg φ' S H' → Er K mg φ' H' σ' ρ → N.nx σ' H'
  | .rt d S => ∀ φ' H' v, Ext φ H φ' H' → Sr K mg φ' S H' → Rp K mg φ' H' v d → N.rt v H'
  | .bk ρ S => ∀ φ' σ' H', Ext φ H φ' H' → Sr K mg φ' S H' → Er K mg φ' H' σ' ρ → N.bk σ' H'
  | .ct ρ S => ∀ φ' σ' H', Ext φ H φ' H' → Sr K mg φ' S H' → Er K mg φ' H' σ' ρ → N.ct σ' H'
  | .ex c ρ S => ClsAt mg c fun cls => ∀ φ' σ' H', Ext φ H φ' H' → Sr K mg φ' S H' → Er K mg φ' H' σ' ρ → W cls none σ' H'
  | .no => False
def lS (f : SF) : TS := fun N σ H => ∃ φ ρ S, Er K mg φ H σ ρ ∧ Sr K mg φ S H ∧ postS K mg W φ H N (f ρ S)
end
section
variable {K : PySem.W.Frag} {mg : MG} {W : WX} {φ φ1 : List Addr} {H H1 : Hp} {σ : L2.St} {N : Ends}
theorem postS.mono (e : Ext φ H φ1 H1) : ∀ {r : SR}, postS K mg W φ H N r → postS K mg W φ1 H1 N r
  | .nx _ _, h => fun φ' σ' H' e' => h φ' σ' H' (e.trans e')
  | .rt _ _, h => fun φ' v' H' e' => h φ' v' H' (e.trans e')
  | .bk _ _, h => fun φ' σ' H' e' => h φ' σ' H' (e.trans e')
  | .ct _ _, h => fun φ' σ' H' e' => h φ' σ' H' (e.trans e')
  | .ex _ _ _, ⟨C, e1, h⟩ => ⟨C, e1, fun φ' σ' H' e' => h φ' σ' H' (e.trans e')⟩
  | .no, h => h
theorem lf.sb {α β : Type} {R : Rl α β} {f : Lc → Sto → Res α} {k : α → Sto → SR} {ρ : Lc} {S : Sto} (er : Er K mg φ H σ ρ) (sr : Sr K mg φ S H) (p : postS K mg W φ H N ((f ρ S).sb ρ k)) :
    lf R K mg W f σ H fun x H1 => ∃ φ1 S1 a, Ext φ H φ1 H1 ∧ Sr K mg φ1 S1 H1 ∧ R φ1 H1 x a ∧ postS K mg W φ1 H1 N (k a S1) := by
  refine ⟨φ, ρ, S, er, sr, ?_⟩
  cases e : f ρ S with
  | ok a S1 =>
    rw [e] at p
    exact fun φ' H' x e' s r => ⟨φ', S1, a, e', s, r, postS.mono e' p⟩
  | ex c S1 => rw [e] at p; exact let ⟨C, e1, h⟩ := p; ⟨C, e1, fun φ' H' e' s => h φ' σ H' e' s (er.mono e')⟩
  | no => rw [e] at p; exact p
end
def DS (X : Cx) (W : WX) (st : Stmt) (f : SF) : Prop := PS X st (lS X.K X.M W f)
def DSs (X : Cx) (W : WX) (st : List Stmt) (f : SF) : Prop := PSs X st (lS X.K X.M W f)
def sNil : SF := fun ρ S => .nx ρ S
def sSeq (a b : SF) : SF := fun ρ S => match a ρ S with
  | .nx ρ' S' => b ρ' S'
  | r => r
def sAsg (t : Tg) (a : EF) : SF := fun ρ S => (a ρ S).sb ρ fun d S1 => match t.put d ρ S1 with
  | some ρ' => .nx ρ' S1
  | none => .no
def sPar (i j : Nat) (a : AF) : SF := fun ρ S => (a ρ S).sb ρ fun ds S1 => match ds with
  | [x, y] => .nx ((ρ.set i (some x)).set j (some y)) S1
  | _ => .no
def sPar3 (i j l : Nat) (a : AF) : SF := fun ρ S => (a ρ S).sb ρ fun ds S1 => match ds with
  | [x, y, z] => .nx (((ρ.set i (some x)).set j (some y)).set l (some z)) S1
  | _ => .no
def sSub (o i a : EF) : SF := fun ρ S => (a ρ S).sb ρ fun d S1 => (o ρ S1).sb ρ fun l S2 => (i ρ S2).sb ρ fun k S3 => match l, k with
  | .ob n, .int k => (match S3[n]? with
    | some (.lst xs) => (match ixN xs.length k with
      | some j => .nx ρ (S3.set n (.lst (xs.set j d)))
      | none => .no)
    | _ => .no)
  | _, _ => .no
def sExpr (a : EF) : SF := fun ρ S => (a ρ S).sb ρ fun _ S1 => .nx ρ S1
def sRet (a : EF) : SF := fun ρ S => (a ρ S).sb ρ fun d S1 => .rt d S1
def sIf (c : TF) (a b : SF) : SF := fun ρ S => (c ρ S).sb ρ fun k S1 => if k = true then a ρ S1 else b ρ S1
section
variable {X : Cx} {W : WX} {st : Stmt} {rest : List Stmt} {f g : SF} {e c : Expr} {fa : EF} {ga : AF} {gt : TF} {pos : Pos}
theorem dss_nil : DSs X W [] sNil := pss_wk pss_nil fun N σ H ⟨φ, ρ, S, er, sr, p⟩ => p φ σ H Ext.rfl' sr er
theorem dss_one (h : DS X W st f) : DSs X W [st] f := pss_one h
theorem dss_cons (h : DS X W st f) (h2 : DSs X W rest g) : DSs X W (st :: rest) (sSeq f g) := pss_wk (pss_cons h h2) fun N σ H ⟨φ, ρ, S, er, sr, p⟩ => by
  refine ⟨φ, ρ, S, er, sr, ?_⟩
  unfold sSeq at p
  cases e : f ρ S with
  | nx ρ' S' =>
    rw [e] at p
    exact fun φ' σ' H' e' s' er' => ⟨φ', ρ', S', er', s', postS.mono e' p⟩
  | rt d S' => rw [e] at p; exact p
  | bk ρ' S' => rw [e] at p; exact p
  | ct ρ' S' => rw [e] at p; exact p
  | ex c ρ' S' => rw [e] at p; exact p
  | no => rw [e] at p; exact p
theorem ds_asg {t : Tg} (h : PS X st (L2.tAsg (lE X.K X.M W fa) (gOf X.K t))) : DS X W st (sAsg t fa) := ps_wk h fun N σ H ⟨φ, ρ, S, er, sr, p⟩ =>
  (lf.sb er sr p).imp fun x H1 ⟨φ1, S1, d, e1, sr1, r1, p1⟩ => by
    split at p1
    · rename_i ρ' hp
      exact gOf_ok sr1 t x d σ ρ ρ' N.nx (er.mono e1) r1 hp fun σ' er' _ => p1 φ1 σ' H1 Ext.rfl' sr1 er'
    · exact p1.elim
theorem ds_par {i j : Nat} (h : PS X st (tPar i j (lA X.K X.M W ga))) : DS X W st (sPar i j ga) := ps_wk h fun N σ H ⟨φ, ρ, S, er, sr, p⟩ =>
  (lf.sb er sr p).imp fun xs H1 ⟨φ1, S1, ds, e1, sr1, r1, p1⟩ => by
    split at p1
    · cases r1 with
      | cons a b =>
        cases b with
        | cons c d =>
          cases d
          exact ⟨_, _, rfl, p1 φ1 _ H1 Ext.rfl' sr1 (((er.mono e1).set a i).set c j)⟩
    · exact p1.elim
theorem ds_sub {fo fi : EF} (h : PS X st (L2.tAsg (lE X.K X.M W fa) (gSub (lE X.K X.M W fo) (lE X.K X.M W fi) rSetL))) : DS X W st (sSub fo fi fa) := ps_wk h fun N σ H ⟨φ, ρ, S, er, sr, p⟩ =>
  (lf.sb er sr p).imp fun x H1 ⟨φ1, S1, d, e1, sr1, r1, p1⟩ => (lf.sb (er.mono e1) sr1 p1).imp fun o H2 ⟨φ2, S2, l, e2, sr2, r2, p2⟩ =>
    (lf.sb ((er.mono e1).mono e2) sr2 p2).imp fun i H3 ⟨φ3, S3, k, e3, sr3, r3, p3⟩ => by
      split at p3
      · split at p3
        · rename_i xs hx
          split at p3
          · rename_i j hj
            cases r3
            cases r2 with
            | ob hn =>
              have hn3 := e3.pre _ _ hn
              obtain ⟨us, g, rs⟩ := sr3.lst hn3 hx
              refine ⟨_, us, _, j, rfl, rfl, g, by rw [rs.length]; exact hj, ?_⟩
              have ex : Ext φ3 H3 φ3 (upd H3 _ (.lst (us.set j x))) := Ext.put hn3
              exact p3 φ3 σ _ ex (sr3.put hn3 ⟨_, upd_same, (rs.set ((r1.mono e2).mono e3) j).mono ex⟩) ((((er.mono e1).mono e2).mono e3).mono ex)
          · exact p3.elim
        · exact p3.elim
      · exact p3.elim
theorem ds_expr (h : PS X st (tDrop (lE X.K X.M W fa))) : DS X W st (sExpr fa) := ps_wk h fun N σ H ⟨φ, ρ, S, er, sr, p⟩ =>
  (lf.sb er sr p).imp fun x H1 ⟨φ1, S1, d, e1, sr1, r1, p1⟩ => p1 φ1 σ H1 Ext.rfl' sr1 (er.mono e1)
theorem ds_ret (h : DE X W e fa) : DS X W (.Return (some e) pos) (sRet fa) := ps_wk (ps_ret h) fun N σ H ⟨φ, ρ, S, er, sr, p⟩ =>
  (lf.sb er sr p).imp fun x H1 ⟨φ1, S1, d, e1, sr1, r1, p1⟩ => p1 φ1 H1 x Ext.rfl' sr1 r1
theorem ds_if {a b : List Stmt} (hc : DT X W c gt) (ha : DSs X W a f) (hb : DSs X W b g) : DS X W (.If c a b pos) (sIf gt f g) := ps_wk (ps_if hc ha hb) fun N σ H ⟨φ, ρ, S, er, sr, p⟩ =>
  (lf.sb er sr p).imp fun k H1 ⟨φ1, S1, k', e1, sr1, r1, p1⟩ => by
    cases r1
    split
    · rename_i h; rw [if_pos h] at p1; exact ⟨φ1, ρ, S1, er.mono e1, sr1, p1⟩
    · rename_i h; rw [if_neg h] at p1; exact ⟨φ1, ρ, S1, er.mono e1, sr1, p1⟩
end
def whGo (c : TF) (b : SF) : Nat → SF
  | n, ρ, S => (c ρ S).sb ρ fun k S1 => if k = true then
      (match n with
      | 0 => .no
      | n + 1 => match b ρ S1 with
        | .nx ρ' S' => whGo c b n ρ' S'
        | .ct ρ' S' => whGo c b n ρ' S'
        | .bk ρ' S' => .nx ρ' S'
        | r => r)
    else .nx ρ S1
def sWh (fuel : Lc → Sto → Nat) (c : TF) (b : SF) : SF := fun ρ S => whGo c b (fuel ρ S) ρ S
def forGo (it : Itd) (t : Tg) (b : SF) : Nat → Nat → SF
  | n, i, ρ, S => match it.at' i S with
    | none => .no
    | some none => .nx ρ S
    | some (some d) => match n with
      | 0 => .no
      | n + 1 => match t.put d ρ S with
        | none => .no
        | some ρ1 => match b ρ1 S with
          | .nx ρ' S' => forGo it t b n (i + 1) ρ' S'
          | .ct ρ' S' => forGo it t b n (i + 1) ρ' S'
          | .bk ρ' S' => .nx ρ' S'
          | r => r
def sFor (a : IF) (t : Tg) (b : SF) : SF := fun ρ S => (a ρ S).sb ρ fun it S1 => forGo it t b (it.size S1) 0 ρ S1
section
variable {X : Cx} {W : WX} {f : SF} {iter tg c : Expr} {body : List Stmt} {gi : IF} {gt : TF} {pos : Pos}
/-- the body's ends within a loop -/
theorem postS_in {φ : List Addr} {H : Hp} {N : Ends} {M : L2.St → Hp → Prop} {r : SR} {k : Lc → Sto → SR}
    (hM : ∀ φ' σ' H' ρ' S', Ext φ H φ' H' → Sr X.K X.M φ' S' H' → Er X.K X.M φ' H' σ' ρ' → postS X.K X.M W φ' H' N (k ρ' S') → M σ' H')
    (p : postS X.K X.M W φ H N (match r with | .nx ρ' S' => k ρ' S' | .ct ρ' S' => k ρ' S' | .bk ρ' S' => .nx ρ' S' | r => r)) : postS X.K X.M W φ H { N with nx := M, ct := M, bk := N.nx } r := by
  cases r with
  | nx ρ' S' => exact fun φ' σ' H' e s er => hM φ' σ' H' ρ' S' e s er (postS.mono e p)
  | ct ρ' S' => exact fun φ' σ' H' e s er => hM φ' σ' H' ρ' S' e s er (postS.mono e p)
  | bk ρ' S' => exact p
  | rt d S' => exact p
  | ex c ρ' S' => exact p
  | no => exact p
theorem ds_while {fuel : Lc → Sto → Nat} (h : PS X (.While c body [] pos) (tWhile (lT X.K X.M W gt) (lS X.K X.M W f))) : DS X W (.While c body [] pos) (sWh fuel gt f) := ps_wk h fun N σ H ⟨φ, ρ, S, er, sr, p⟩ => by
  refine ⟨fun n σ H => ∃ φ ρ S, Er X.K X.M φ H σ ρ ∧ Sr X.K X.M φ S H ∧ postS X.K X.M W φ H N (whGo gt f n ρ S), ⟨fuel ρ S, φ, ρ, S, er, sr, p⟩, ?_⟩
  rintro n σ H ⟨φ, ρ, S, er, sr, p⟩
  unfold whGo at p
  refine (lf.sb er sr p).imp fun k H1 ⟨φ1, S1, k', e1, sr1, r1, p1⟩ => ?_
  cases r1
  split
  · rename_i hk
    rw [if_pos hk] at p1
    cases n with
    | zero => exact p1.elim
    | succ n =>
      refine ⟨fun σ' H' => ∃ φ ρ S, Er X.K X.M φ H' σ' ρ ∧ Sr X.K X.M φ S H' ∧ postS X.K X.M W φ H' N (whGo gt f n ρ S), fun σ' H' w => ⟨n, Nat.lt_succ_self n, w⟩, φ1, ρ, S1, er.mono e1, sr1, ?_⟩
      exact postS_in (k := whGo gt f n) (fun φ' σ' H' ρ' S' _ s er q => ⟨φ', ρ', S', er, s, q⟩) p1
  · rename_i hk
    rw [if_neg hk] at p1
    exact p1 φ1 σ H1 Ext.rfl' sr1 (er.mono e1)
theorem ds_for {t : Tg} (h : PS X (.For tg iter body [] pos) (L2.tFor (lf (ItR X.K X.M) X.K X.M W gi) (gOf X.K t) (lS X.K X.M W f))) : DS X W (.For tg iter body [] pos) (sFor gi t f) := ps_wk h fun N σ H ⟨φ, ρ, S, er, sr, p⟩ =>
  (lf.sb er sr p).imp fun J H1 ⟨φ1, S1, it, e1, sr1, r1, p1⟩ => by
    refine ⟨fun i n σ H => ∃ φ ρ S, Ext φ1 H1 φ H ∧ Er X.K X.M φ H σ ρ ∧ Sr X.K X.M φ S H ∧ postS X.K X.M W φ H N (forGo it t f n i ρ S), ⟨it.size S1, φ1, ρ, S1, Ext.rfl', er.mono e1, sr1, p1⟩, ?_⟩
    rintro i n σ H ⟨φ, ρ, S, ex, er, sr, p⟩
    have J1 := r1 i φ S H ex sr
    unfold forGo at p
    cases ha : it.at' i S with
    | none => rw [ha] at p; exact p.elim
    | some o =>
      rw [ha] at p J1
      cases o with
      | none => exact .inl ⟨J1, p φ σ H Ext.rfl' sr er⟩
      | some d =>
        obtain ⟨go, yld⟩ := J1
        cases n with
        | zero => exact p.elim
        | succ n =>
          refine .inr ⟨go, fun σ' H' => ∃ φ ρ S, Ext φ1 H1 φ H' ∧ Er X.K X.M φ H' σ' ρ ∧ Sr X.K X.M φ S H' ∧ postS X.K X.M W φ H' N (forGo it t f n (i + 1) ρ S), fun σ' H' w => ⟨n, Nat.lt_succ_self n, w⟩, fun x H' hy => ?_⟩
          obtain ⟨ex2, sr2, rx⟩ := yld x H' hy
          simp only at p
          split at p
          · exact p.elim
          · rename_i ρ1 hp
            refine gOf_ok sr2 t x d σ ρ ρ1 _ (er.mono ex2) rx hp fun σ' er' _ => ⟨φ, ρ1, S, er', sr2, ?_⟩
            exact postS_in (k := forGo it t f n (i + 1)) (fun φ' σ' H'' ρ' S' e' s er q => ⟨φ', ρ', S', (ex.trans ex2).trans e', er, s, q⟩) (postS.mono ex2 p)
end
theorem wipe_wipe {σ : L2.St} {vs : List Nat} : wipe (wipe σ vs) vs = wipe σ vs := by
  refine List.ext_getElem? fun i => ?_
  rw [wipe_at, wipe_length]
  by_cases hc : i ∈ vs ∧ i < σ.length
  · rw [if_pos hc, wipe_at, if_pos hc]
  · rw [if_neg hc]
def wipeD (ρ : Lc) : List Nat → Lc
  | [] => ρ
  | v :: vs => (wipeD ρ vs).set v none
theorem Er.wipe {K : PySem.W.Frag} {mg : MG} {φ : List Addr} {H : Hp} {σ : L2.St} {ρ : Lc} (er : Er K mg φ H σ ρ) : ∀ vs, Er K mg φ H (wipe σ vs) (wipeD ρ vs)
  | [] => er
  | v :: vs => by
    have ih := er.wipe vs
    refine ⟨by simp [L2.wipe, wipeD, ih.len], fun i d h => ?_⟩
    unfold wipeD at h
    unfold L2.wipe
    rw [List.getElem?_set] at h ⊢
    by_cases hv : v = i
    · rw [if_pos hv] at h
      split at h <;> cases h
    · rw [if_neg hv] at h ⊢
      exact ih.at' i d h
def lcGo (it : Itd) (t : Tg) (c : TF) (e : EF) (ρ : Lc) (k : Nat) : Nat → Nat → Sto → Res D
  | n, i, S => match it.at' i S with
    | none => .no
    | some none => .ok (.ob k) S
    | some (some d) => match n with
      | 0 => .no
      | n + 1 => match t.put d ρ S with
        | none => .no
        | some ρ1 => match c ρ1 S with
          | .ok false S2 => lcGo it t c e ρ k n (i + 1) S2
          | .ok true S2 => (match e ρ1 S2 with
            | .ok y S3 => (match S3[k]? with
              | some (.lst acc) => if szOk acc.length then lcGo it t c e ρ k n (i + 1) (S3.set k (.lst (acc ++ [y]))) else .no
              | _ => .no)
            | _ => .no)
          | _ => .no
/-- what was made behind n objects is dropped; the value is by value -/
def dropR (S0 : Sto) : Res D → Res D
  | .ok d S => match frz S0.length S 40 d, dropOs S0.length S 40 S0 S with
    | some e, some T => .ok e T
    | _, _ => .no
  | .ex c S => match dropOs S0.length S 40 S0 S with
    | some T => .ex c T
    | none => .no
  | .no => .no
theorem post_drop {K : PySem.W.Frag} {mg : MG} {W : WX} {φ : List Addr} {H : Hp} {σ : L2.St} {Q : VK} {S0 : Sto} (s0 : Sr K mg φ S0 H) : ∀ {r : Res D}, post (Rp K mg) K mg W φ H σ Q (dropR S0 r) → post (Rp K mg) K mg W φ H σ Q r
  | .ok d S, p => fun φ' H' x e' s r => by
    simp only [dropR] at p
    split at p
    · rename_i e T h1 h2
      obtain ⟨a1, a2, a3⟩ := call_end s0 e' s r h1 h2
      exact p φ H' x a1 a2 a3
    · exact p.elim
  | .ex c S, p => by
    simp only [dropR] at p
    split at p
    · rename_i T h2
      obtain ⟨C, e1, h⟩ := p
      refine ⟨C, e1, fun φ' H' e' s => ?_⟩
      obtain ⟨a1, a2, _⟩ := call_end (v := .non) (d := .non) (e := .non) (k := 1) s0 e' s .non (by simp [frz]) h2
      exact h φ H' a1 a2
    · exact p.elim
  | .no, p => p
def eLc (a : IF) (t : Tg) (c : TF) (e : EF) (own : List Nat) : EF := fun ρ S => (a ρ S).bind fun it S1 => dropR S1 (lcGo it t c e (wipeD ρ own) S1.length (it.size S1) 0 (S1 ++ [.lst []]))
def cYes : TF := fun _ S => .ok true S
section
variable {X : Cx} {W : WX} {w : Expr} {gi : IF} {gt : TF} {fe : EF} {t : Tg} {own : List Nat}
theorem tLc_of (ho : ∀ j ∈ t.slots, j ∈ own) : ∀ σ H Q, lE X.K X.M W (eLc gi t gt fe own) σ H Q → L2.tLc (lf (ItR X.K X.M) X.K X.M W gi) (gOf X.K t) (lT X.K X.M wF gt) (lE X.K X.M wF fe) own σ H Q := fun σ H Q ⟨φ, ρ, S, er, sr, p⟩ =>
  (lf.bind er sr p).imp fun J H1 ⟨φ1, S1, it, e1, sr1, r1, p1⟩ => fun Dn hD => by
    have p1 := post_drop sr1 p1
    have eD := Ext.newSnoc (φ := φ1) (o := .lst []) hD
    have srD := sr1.snoc (o := .lst []) (u := .lst []) hD ⟨[], upd_same, .nil⟩
    refine ⟨fun i n H => ∃ φ S, Ext φ1 H1 φ H ∧ φ[S1.length]? = some Dn ∧ Sr X.K X.M φ S H ∧ post (Rp X.K X.M) X.K X.M W φ H σ Q (lcGo it t gt fe (wipeD ρ own) S1.length n i S),
      ⟨it.size S1, φ1 ++ [Dn], _, eD, at_snoc sr1 Dn, srD, post.mono eD p1⟩, ?_⟩
    rintro i n H ⟨φ, S, ex, hk, sr, p⟩
    have J1 := r1 i φ S H ex sr
    unfold lcGo at p
    cases ha : it.at' i S with
    | none => rw [ha] at p; exact p.elim
    | some o =>
      rw [ha] at p J1
      cases o with
      | none => exact .inl ⟨J1, p φ H _ Ext.rfl' sr (.ob hk)⟩
      | some d =>
        obtain ⟨go, yld⟩ := J1
        cases n with
        | zero => exact p.elim
        | succ n =>
          refine .inr ⟨go, fun H' => ∃ φ S, Ext φ1 H1 φ H' ∧ φ[S1.length]? = some Dn ∧ Sr X.K X.M φ S H' ∧ post (Rp X.K X.M) X.K X.M W φ H' σ Q (lcGo it t gt fe (wipeD ρ own) S1.length n (i + 1) S), fun H' w => ⟨n, Nat.lt_succ_self n, w⟩, fun x H' hy => ?_⟩
          obtain ⟨ex2, sr2, rx⟩ := yld x H' hy
          simp only at p
          split at p
          · exact p.elim
          · rename_i ρ1 hp
            have erw := ((er.mono e1).mono (ex.trans ex2)).wipe own
            refine gOf_ok sr2 t x d (wipe σ own) (wipeD ρ own) ρ1 _ erw rx hp fun σ2 er2 sb => ⟨(sb.mono ho).wipe.trans wipe_wipe, φ, ρ1, S, er2, sr2, ?_⟩
            split at p
            · rename_i S2 hc
              rw [hc]
              intro φ3 H3 b e3 sr3 hb
              cases hb
              rw [if_neg Bool.false_ne_true]
              exact ⟨φ3, S2, (ex.trans ex2).trans e3, e3.pre _ _ hk, sr3, post.mono (ex2.trans e3) p⟩
            · rename_i S2 hc
              rw [hc]
              intro φ3 H3 b e3 sr3 hb
              cases hb
              rw [if_pos rfl]
              refine ⟨φ3, ρ1, S2, er2.mono e3, sr3, ?_⟩
              split at p
              · rename_i y S3 hy
                rw [hy]
                intro φ4 H4 yv e4 sr4 ry
                split at p
                · rename_i acc hacc
                  split at p
                  · rename_i hz
                    have hk4 := e4.pre _ _ (e3.pre _ _ hk)
                    obtain ⟨us, g, rs⟩ := sr4.lst hk4 hacc
                    refine ⟨us, g, by rw [rs.length]; exact szOk.lt hz, ?_⟩
                    have ex5 : Ext φ4 H4 φ4 (upd H4 Dn (.lst (us ++ [yv]))) := Ext.put hk4
                    exact ⟨φ4, _, (((ex.trans ex2).trans e3).trans e4).trans ex5, hk4, sr4.put (u := .lst (acc ++ [y])) hk4 ⟨_, upd_same, (rs.append (.cons ry .nil)).mono ex5⟩, post.mono (((ex2.trans e3).trans e4).trans ex5) p⟩
                  · exact p.elim
                · exact p.elim
              · exact p.elim
            · exact p.elim
theorem de_lc {own' : List (Str × Nat)} (h : PE X w (L2.tLc (lf (ItR X.K X.M) X.K X.M W gi) (gOf X.K t) (lT X.K X.M wF gt) (lE X.K X.M wF fe) (own'.map (·.2)))) (ho : ∀ j ∈ t.slots, j ∈ own'.map (·.2)) : DE X W w (eLc gi t gt fe (own'.map (·.2))) :=
  pe_wk h (tLc_of ho)
/-- a comprehension without a test: its test as the hand layer has it -/
theorem tYes_of : ∀ σ H Q, lT X.K X.M W cYes σ H Q → tYes σ H Q := fun σ H Q ⟨φ, ρ, S, er, sr, p⟩ => p φ H true Ext.rfl' sr rfl
end
/-- its end: what it made is dropped (runK: nothing is) -/
def endR : SR → Res D
  | .rt d S' => .ok d S'
  | .nx _ S' => .ok .non S'
  | .ex c _ S' => .ex c S'
  | _ => .no
def runK (N n : Nat) (b : SF) : FF := fun ds S => endR (b (ds.map some ++ List.replicate (N - n) none) S)
def runF (N n : Nat) (b : SF) : FF := fun ds S => dropR S (runK N n b ds S)
theorem start_er {K : PySem.W.Frag} {mg : MG} {φ : List Addr} {H : Hp} {N : List Str} {vs : List V} {ds : List D} (r : Rps K mg φ H vs ds) {n : Nat} (hn : vs.length = n) : Er K mg φ H (L2.start N vs) (ds.map some ++ List.replicate (N.length - n) none) := by
  subst hn
  refine ⟨by simp [L2.start, r.length], fun i d h => ?_⟩
  by_cases hi : i < ds.length
  · rw [List.getElem?_append_left (by simpa using hi), List.getElem?_map] at h
    cases e : ds[i]? with
    | none => rw [e] at h; cases h
    | some d' =>
      rw [e] at h
      cases h
      obtain ⟨v, hv, rv⟩ := r.get e
      refine ⟨v, ?_, rv⟩
      unfold L2.start
      rw [List.getElem?_append_left (by simpa [r.length] using hi), List.getElem?_map, hv]
      rfl
  · rw [List.getElem?_append_right (by simpa using hi), List.getElem?_replicate] at h
    split at h <;> cases h
section
variable {P : Program} {w : World} {K : PySem.W.Frag} {mg : Str → Option Value} {base : Heap} {x qual : Str} {st : Stmt} {f : Addr} {fd : FuncData} {N ps : List Str} {k : Nat} {b : SF}
theorem fn_okK (F : Fun K x qual st f fd) (S : FnScope N ps (defScope st))
    (hb : ∀ (cdv : Value) (A : Around) (outer : List Env) (s : Shared) (H : Hp) (E : XK), Room k (A.deeper (envOfC qual (defScope st) s.heap.objs.size f cdv)) →
      DSs (cxOf (L2.CX P w) P w K mg base N qual (defScope st) f cdv A outer s H E) (fun cls d _ H => E cls d H) (defBody st) b) :
    FnOk P w K mg base (L2.CX P w) (k + 1) f fd ps (spF K ⟨mg, P, w⟩ ps.length (runK N.length ps.length b)) := by
  refine F.okX S (fun vs H Q E h => h.1) (fun cdv A outer s H vs Q E hr h => ?_)
  obtain ⟨hl, φ, ds, S0, rs, sr, p⟩ := h
  refine ⟨_, hb cdv A outer s H E hr, φ, _, S0, start_er rs hl, sr, ?_⟩
  unfold runK at p
  cases e : b (ds.map some ++ List.replicate (N.length - ps.length) none) S0 with
  | rt d S' => rw [e] at p; exact fun φ' H' v e' s' r' => p φ' H' v e' s' r'
  | nx ρ S' => rw [e] at p; exact fun φ' σ' H' e' s' r' => p φ' H' .non e' s' .non
  | ex c ρ S' =>
    rw [e] at p
    obtain ⟨C, e1, h⟩ := p
    exact ⟨C, e1, fun φ' σ' H' e' s' _ => h φ' H' e' s'⟩
  | bk _ _ => rw [e] at p; exact p.elim
  | ct _ _ => rw [e] at p; exact p.elim
  | no => rw [e] at p; exact p.elim
theorem spF_drop {n : Nat} {F : FF} : ∀ vs H Q E, spF K ⟨mg, P, w⟩ n (fun ds S => dropR S (F ds S)) vs H Q E → spF K ⟨mg, P, w⟩ n F vs H Q E := fun vs H Q E ⟨hl, φ, ds, S0, rs, sr, p⟩ => ⟨hl, φ, ds, S0, rs, sr, post_drop sr p⟩
theorem fn_ok (F : Fun K x qual st f fd) (S : FnScope N ps (defScope st))
    (hb : ∀ (cdv : Value) (A : Around) (outer : List Env) (s : Shared) (H : Hp) (E : XK), Room k (A.deeper (envOfC qual (defScope st) s.heap.objs.size f cdv)) →
      DSs (cxOf (L2.CX P w) P w K mg base N qual (defScope st) f cdv A outer s H E) (fun cls d _ H => E cls d H) (defBody st) b) :
    FnOk P w K mg base (L2.CX P w) (k + 1) f fd ps (spF K ⟨mg, P, w⟩ ps.length (runF N.length ps.length b)) := (fn_okK F S hb).imp spF_drop
end
end DV
set_option Elab.async false
set_option linter.all false
set_option maxRecDepth 100000
namespace DV
open PySem PySem.Spec PyProof.Rows L2
section
variable {X : Cx} {W : WX} {e tg iter : Expr} {es : List Expr} {fa : EF} {ga : AF} {pos : Pos}
theorem de_callB {w : Expr} {r : List V → Hp → VK → Prop} {c : FF} (h : PE X w (tCB r (lA X.K X.M W ga))) (hc : Cal X.K X.M r c) : DE X W w (eB c ga) := pe_wk h (tCB_of hc)
/-- targets -/
theorem dg_nm {i : Nat} {t : Expr} (h : PG X t (gName i)) : PG X t (gOf X.K (.nm i)) := by unfold gOf; exact h
theorem pg_or {t : Expr} {g1 g2 : TG} (h1 : PG X t g1) (h2 : PG X t g2) : PG X t (fun v σ H Q => g1 v σ H Q ∨ g2 v σ H Q) := ⟨fun pins s σ H v u Q I r h => h.elim (h1.run pins s σ H v u Q I r) (h2.run pins s σ H v u Q I r)⟩
theorem dg_tp {ts : List Tg} {k : Nat} (hc : X.calm = true) (h : PGs X es (gsOf X.K ts)) (hn : (assignEach es X.env).length = ts.length := by rfl) (hst : (assignEach es X.env).findIdx? (·.1) = none := by rfl) : PG X (.Tuple es k pos) (gOf X.K (.tp ts)) := by
  unfold gOf
  exact pg_or (pg_tup hc h hn hst) (pg_lst hc h hn hst)
theorem dgs_nil : PGs X [] (gsOf X.K []) := by unfold gsOf; exact pgs_nil
theorem dgs_cons {t : Tg} {ts : List Tg} (h : PGs X (e :: es) (gCons (gOf X.K t) (gsOf X.K ts))) : PGs X (e :: es) (gsOf X.K (t :: ts)) := by unfold gsOf; exact h
theorem dts_nil : PTs X [] (lT X.K X.M W cYes) := ⟨fun pins s σ H Q I z => pts_nil.run pins s σ H Q I (tYes_of σ H Q z)⟩
theorem dts_one {gt : TF} (h : DT X W e gt) : PTs X [e] (lT X.K X.M W gt) := pts_one h
theorem ds_setLc {st : Stmt} {i : Nat} {gi : IF} {gt : TF} {fe : EF} {t : Tg} {own' : List (Str × Nat)} (h : PS X st (L2.tAsg (L2.tLc (lf (ItR X.K X.M) X.K X.M W gi) (gOf X.K t) (lT X.K X.M wF gt) (lE X.K X.M wF fe) (own'.map (·.2))) (gName i))) (ho : ∀ j ∈ t.slots, j ∈ own'.map (·.2)) :
    DS X W st (sAsg (.nm i) (eLc gi t gt fe (own'.map (·.2)))) :=
  ds_asg (ps_wk h fun N σ H z => tLc_of ho σ H _ (z.imp fun x H1 q => by unfold gOf at q; exact q))
def eNeg (a : EF) : EF := fun ρ S => (a ρ S).bind fun d S1 => match d with | .int i => .ok (.int (-i)) S1 | _ => .no
theorem de_neg (h : DE X W e fa) : DE X W (.UnaryOp .USub e pos) (eNeg fa) := pe_wk (pe_un un_neg h) fun σ H Q ⟨φ, ρ, S, er, sr, p⟩ =>
  (lf.bind er sr p).imp fun x H1 ⟨φ1, S1, d, e1, sr1, r1, p1⟩ => by
    split at p1
    · cases r1
      exact ⟨_, rfl, p1 φ1 H1 _ Ext.rfl' sr1 (.int _)⟩
    · exact p1.elim
end
/-- the script's slice: a new list of its ints, by value -/
def eRo (a : EF) (lo hi : PF) : EF := fun ρ S => (a ρ S).bind fun d S1 => (lo ρ S1).bind fun l S2 => (hi ρ S2).bind fun u S3 => match d with
  | .ro ns => .ok (.lst ((cutD ns l u).map D.int)) S3
  | _ => .no
theorem Rps.ints {K : PySem.W.Frag} {mg : MG} {φ : List Addr} {H : Hp} : ∀ ns : List Int, Rps K mg φ H (ns.map V.int) (ns.map D.int)
  | [] => .nil
  | n :: ns => .cons (.int n) (Rps.ints ns)
theorem cutV_map (ns : List Int) (lo hi : Option Int) : cutV (ns.map V.int) lo hi = (cutD ns lo hi).map V.int := by
  unfold cutV cutD
  rw [List.length_map, List.map_take, List.map_drop]
theorem de_ro {X : Cx} {W : WX} {a : Expr} {lo hi : Option Expr} {fa : EF} {fl fh : PF} {p2 pos : Pos} (ha : DE X W a fa) (hl : DO X W lo fl) (hh : DO X W hi fh) : DE X W (.Subscript a (.Slice lo hi none p2) pos) (eRo fa fl fh) :=
  pe_wk (pe_slice sl_list ha hl hh) fun σ H Q ⟨φ, ρ, S, er, sr, p⟩ => (lf.bind er sr p).imp fun x H1 ⟨φ1, S1, d, e1, sr1, r1, p1⟩ =>
    (lf.bind (er.mono e1) sr1 p1).imp fun l H2 ⟨φ2, S2, l', e2, sr2, r2, p2⟩ => (lf.bind ((er.mono e1).mono e2) sr2 p2).imp fun u H3 ⟨φ3, S3, u', e3, sr3, r3, p3⟩ => by
      cases r2; cases r3
      have r1' := (r1.mono e2).mono e3
      cases d with
      | ro ns =>
        cases r1' with
        | ro h =>
          refine ⟨_, ns.map V.int, rfl, ?_, fun q hq => ?_⟩
          · rcases h with ⟨o, h⟩ | (h | ⟨o, h⟩) | h
            · exact .inl (.inr ⟨o, h.2⟩)
            · cases h
            · cases h
            · exact .inr h
          rw [cutV_map]
          exact p3 φ3 _ _ (Ext.new hq) (sr3.new hq) (.lst (sr3.im hq) (Rps.ints _))
      | _ => exact p3.elim
/-- a def of the text, as the top has left it -/
def FnAt (K : PySem.W.Frag) (mg : Str → Option Value) (x : Str) (st : Stmt) (ps : List Str) : Prop :=
  ∃ a fd, Fun K x x st a fd ∧ mg x = some (.ref a) ∧ Binds K fd ps []
/-- a def that keeps its promise: it does what F says -/
def Def (P : Program) (w : World) (K : PySem.W.Frag) (mg : Str → Option Value) (base : Heap) (x : Str) (ps : List Str) (k n : Nat) (F : FF) : Prop :=
  ∃ a fd, FnOk P w K mg base (L2.CX P w) k a fd ps (spF K ⟨mg, P, w⟩ n F) ∧ mg x = some (.ref a) ∧ PySem.W.keepIn K (.ref a) = true ∧ Binds K fd ps []
section
variable {P : Program} {w : World} {K : PySem.W.Frag} {mg : Str → Option Value} {base : Heap} {x : Str} {st : Stmt} {N ps : List Str} {k : Nat} {b : SF}
theorem def_ok (A : FnAt K mg x st ps) (S : FnScope N ps (defScope st))
    (hb : ∀ (f : Addr) (cdv : Value) (A : Around) (outer : List Env) (s : Shared) (H : Hp) (E : XK), Room k (A.deeper (envOfC x (defScope st) s.heap.objs.size f cdv)) →
      DSs (cxOf (L2.CX P w) P w K mg base N x (defScope st) f cdv A outer s H E) (fun cls d _ H => E cls d H) (defBody st) b) : Def P w K mg base x ps (k + 1) ps.length (runF N.length ps.length b) := by
  obtain ⟨a, fd, F, g, bi⟩ := A
  exact ⟨a, fd, fn_ok F S (hb a), g, F.kp, bi⟩
theorem def_okK (A : FnAt K mg x st ps) (S : FnScope N ps (defScope st))
    (hb : ∀ (f : Addr) (cdv : Value) (A : Around) (outer : List Env) (s : Shared) (H : Hp) (E : XK), Room k (A.deeper (envOfC x (defScope st) s.heap.objs.size f cdv)) →
      DSs (cxOf (L2.CX P w) P w K mg base N x (defScope st) f cdv A outer s H E) (fun cls d _ H => E cls d H) (defBody st) b) : Def P w K mg base x ps (k + 1) ps.length (runK N.length ps.length b) := by
  obtain ⟨a, fd, F, g, bi⟩ := A
  exact ⟨a, fd, fn_okK F S (hb a), g, F.kp, bi⟩
end
theorem de_callD {X : Cx} {W : WX} {k j n : Nat} {ps : List Str} {F : FF} {x : Str} {p pos : Pos} {e : Expr} {es : List Expr} {ga : AF}
    (d : Def X.prog X.w X.K X.mg X.base x ps k n F) (hr : Room j X.A) (tk : Takes X W) (hkj : k ≤ j) (hg : Gl X x) (ha : DA X W (e :: es) ga) (hl : aLen ga n) (hdb : (x == ("__debug__" : Str)) = false := by decide)
    (he : starEach (e :: es) X.env = (false, eval e X.env) :: starEach es X.env := by rfl) (hpl : (backTo pos (starEach es X.env)).any (·.1) = false := by rfl) :
    DE X W (.Call (.Name x p) (e :: es) [] pos) (eCall F ga) := by
  obtain ⟨a, fd, G, hm, hk, hb⟩ := d
  exact de_call G (hr.mono hkj) tk hg hm hk hb ha hl hdb he hpl
theorem fnat_mk {K : PySem.W.Frag} {mg : Str → Option Value} {h : Heap} {x : Str} {st : Stmt} {f : Addr} {ps : List Str} {oc : Value} {od an : Option Addr} {osl : Array (Option Value)} {kV doc pm cdv ct : Value} (X : K.In h) (G : h.Ns mainGlobals mg)
    (a : PySem.W.nsIn K mainGlobals x = some (some (.ref f))) (l : K.lookup f = some ⟨oc, od, .func (PySem.W.fnOf x x (defArgs st) (defBody st) (defScope st) .none kV doc pm an cdv ct), osl⟩)
    (c : PySem.W.codeIn K cdv x = true) (k : PySem.W.keepIn K (.ref f) = true)
    (hb : ∀ (kV doc pm : Value) (an : Option Addr) (cdv ct : Value) (us : List Value), us.length = ps.length → bindArgs (PySem.W.fnOf x x (defArgs st) (defBody st) (defScope st) .none kV doc pm an cdv ct) ⟨us, []⟩ = pure (ps.zip us)) : FnAt K mg x st ps :=
  ⟨f, _, fun_mk l c k, PySem.W.mg_of X G a, (fun_mk l c k).binds hb⟩
/-- the law's promise: True, of every script -/
def spLaw (K : PySem.W.Frag) : Sp := fun vs H Q _ => ∃ (a : Addr) (ns : List Int), vs = [.ref a] ∧ SqL K H a (ns.map V.int) ∧ Only H ∧ ns.length ≤ 63 ∧ ∀ H', Q (.bl true) H'
end DV
namespace DV
open PySem PySem.Spec PyProof.Rows L2
theorem def_no {P : Program} {w : World} {K : PySem.W.Frag} {mg : Str → Option Value} {base : Heap} {x : Str} {st : Stmt} {ps : List Str} {k n : Nat} (A : FnAt K mg x st ps) (hn : ps.length = n) : Def P w K mg base x ps k n (fun _ _ => .no) := by
  obtain ⟨a, fd, F, g, bi⟩ := A
  refine ⟨a, fd, ⟨fun vs H Q E h => h.1.trans hn.symm, fun A outer s H args us vs Q E hr he hb hv h => ?_⟩, g, F.kp, bi⟩
  obtain ⟨_, φ, ds, S, _, _, p⟩ := h
  exact p.elim
end DV
namespace DV
open PySem PySem.Spec PyProof.Rows L2
def GInt (mg : Str → Option Value) (x : Str) (i : Int) : Prop := ∃ t, mg x = some (.int i t)
def GTup (K : PySem.W.Frag) (mg : Str → Option Value) (x : Str) (ds : List D) : Prop := ∃ a, mg x = some (.ref a) ∧ ∀ (M : MG) φ H, Rp K M φ H (.ref a) (.tup ds)
theorem de_gint {X : Cx} {W : WX} {x : Str} {i : Int} {pos : Pos} (h : GInt X.mg x i) (hg : Gl X x) (hd : (x == ("__debug__" : Str)) = false := by decide) : DE X W (.Name x pos) (eC (.int i)) := by
  obtain ⟨t, h⟩ := h
  exact de_con (pe_glob (v := .int i) hg h ⟨t, rfl⟩ hd) fun _ _ => .int i
theorem de_gtup {X : Cx} {W : WX} {x : Str} {ds : List D} {pos : Pos} (h : GTup X.K X.mg x ds) (hg : Gl X x) (hd : (x == ("__debug__" : Str)) = false := by decide) : DE X W (.Name x pos) (eC (.tup ds)) := by
  obtain ⟨a, h, r⟩ := h
  exact de_con (pe_glob (v := .ref a) hg h rfl hd) (r _)
theorem gtup_mk {K : PySem.W.Frag} {mg : Str → Option Value} {x : Str} {a : Addr} {od : Option Addr} {its : Array Value} {n : Nat} {sl : Array (Option Value)} {vs : List V} {ds : List D} (m : mg x = some (.ref a))
    (l : K.lookup a = some ⟨.type "tuple", od, .seq its n, sl⟩) (hz : its.size ≤ sizeLine) (hv : Vals vs its.toList) (hr : ∀ (M : MG) φ H, Rps K M φ H vs ds) : GTup K mg x ds :=
  ⟨a, m, fun M φ H => .tup (.inr (.inr ⟨_, its, n, l, rfl, rfl, hz, hv⟩)) (hr M φ H)⟩
end DV
namespace DV
open PySem PySem.Spec PyProof.Rows L2
/-- x += e, ints -/
def sAug (i : Nat) (a : EF) : SF := fun ρ S => match ρ[i]? with
  | some (some (.int x)) => (a ρ S).sb ρ fun d S1 => (match d with | .int y => .nx (ρ.set i (some (.int (x + y)))) S1 | _ => .no)
  | _ => .no
theorem ds_aug {X : Cx} {W : WX} {st : Stmt} {i : Nat} {fa : EF} (h : PS X st (L2.tAug i (lE X.K X.M W fa) (ipI fun a b => a + b))) : DS X W st (sAug i fa) := ps_wk h fun N σ H ⟨φ, ρ, S, er, sr, p⟩ => by
  unfold sAug at p
  split at p
  · rename_i x hx
    obtain ⟨v, hv, rv⟩ := er.at' i _ hx
    refine ⟨v, hv, (lf.sb er sr p).imp fun y H1 ⟨φ1, S1, d, e1, sr1, r1, p1⟩ => ?_⟩
    split at p1
    · cases rv; cases r1
      exact ⟨_, _, rfl, rfl, p1 φ1 _ H1 Ext.rfl' sr1 ((er.mono e1).set (.int _) i)⟩
    · exact p1.elim
  · exact p.elim
end DV
set_option Elab.async false
set_option linter.all false
set_option maxRecDepth 100000
namespace DV
open PySem PySem.Spec PyProof.Rows L2
section
variable {prog : Program} {w : World} {A : Around} {E : Value → Shared → Prop} {s : Shared}
theorem adjust_rev (n : Nat) : Builtin.Slice.sliceAdjust none none (-1) (n : Int) = ((n : Int) - 1, -1) := by
  unfold Builtin.Slice.sliceAdjust
  simp
theorem places_rev (n : Nat) : Builtin.Slice.slicePlaces ((n : Int) - 1) (-1) (-1) = n := by
  unfold Builtin.Slice.slicePlaces
  have h1 : ¬ (-1 : Int) > 0 := by decide
  simp only [h1, if_false]
  by_cases h : (n : Int) - 1 > -1
  · rw [if_pos h, show (-(-1 : Int)) = 1 by decide, Int.ediv_one]
    omega
  · rw [if_neg h]
    omega
theorem sliceApplied_rev {sl : Addr} {vs : Value} {n : Nat} {Q : Int × Int × Nat → Shared → Prop} (hs : s.heap.IsSliceOf sl .none .none vs) (ps : IsPart vs (some (-1)))
    (h : Q ((n : Int) - 1, -1, n) s) : wpAny (model prog w) A (Builtin.Slice.sliceApplied (.ref sl) (pure (n : Int))) Q E s := by
  obtain ⟨os, hos, hcs, hds⟩ := id hs
  unfold Builtin.Slice.sliceApplied Builtin.Slice.sliceFields
  refine wpAny_bind (wpAny_bind (wpAny_field hos hds (x := .none) rfl (wpAny_bind (wpAny_field hos hds (x := .none) rfl (wpAny_bind (wpAny_field hos hds (x := vs) rfl (wpAny_pure ?_)))))))
  refine wpAny_bind (HT.slicePart_ ps ?_)
  show wpAny _ _ (if ((-1 : Int) == 0) = true then _ else _) _ _ s
  rw [if_neg (by decide)]
  refine wpAny_bind (HT.slicePart_ .none (wpAny_bind (HT.slicePart_ .none (wpAny_bind (wpAny_pure ?_)))))
  show wpAny _ _ (match Builtin.Slice.sliceAdjust none none (-1) (n : Int) with | (lo, hi) => pure (lo, (-1 : Int), Builtin.Slice.slicePlaces lo hi (-1))) _ _ s
  rw [adjust_rev]
  show wpAny _ _ (pure ((n : Int) - 1, (-1 : Int), Builtin.Slice.slicePlaces ((n : Int) - 1) (-1) (-1))) _ _ s
  rw [places_rev]
  exact wpAny_pure h
theorem fm_congr {α β : Type} {f g : α → Option β} : ∀ {l : List α}, (∀ x ∈ l, f x = g x) → l.filterMap f = l.filterMap g
  | [], _ => rfl
  | x :: l, h => by
    have ih := fm_congr (l := l) fun y hy => h y (by simp [hy])
    rw [List.filterMap_cons, List.filterMap_cons, h x (by simp), ih]
theorem pick_rev (xs : Array Value) : ((List.range xs.size).filterMap fun (k : Nat) => xs[(((xs.size : Nat) : Int) - 1 + (k : Int) * (-1)).toNat]?).toArray = xs.toList.reverse.toArray := by
  have h := PySem.W.krv_pick xs
  rw [← h]
  unfold PySem.slicePick
  rw [PySem.W.krv_bounds]
  show _ = ((sliceRange ((xs.size : Int) - 1) (-1) (-1)).filterMap (xs[·]?)).toArray
  rw [PySem.W.krv_sliceRange, List.filterMap_map]
  congr 1
  refine fm_congr fun k hk => ?_
  have := List.mem_range.mp hk
  show xs[_]? = xs[_]?
  congr 1
  show (((xs.size : Nat) : Int) - 1 + (k : Int) * (-1)).toNat = xs.size - 1 - k
  omega
theorem getItem_tuple_rev {t sl : Addr} {items : Array Value} {vs : Value} {Q : Value → Shared → Prop} (ht : IsTup s.heap t items) (hs : s.heap.IsSliceOf sl .none .none vs) (ps : IsPart vs (some (-1)))
    (h : Q (.ref s.heap.objs.size) { s with heap := s.heap.push { cls := .type "tuple", data := .seq items.toList.reverse.toArray } })
    (hsz : items.size ≤ sizeLine) : wpAny (model prog w) A (getItem (.ref t) (.ref sl)) Q E s := by
  have hdrop : sizeOk (.seq items.toList.reverse.toArray) := by
    show items.toList.reverse.toArray.size ≤ sizeLine
    rw [List.size_toArray, List.length_reverse, Array.length_toList]
    exact hsz
  obtain ⟨os, hos, hcs, hds⟩ := id hs
  have hTs : s.TypeIs (.ref sl) "slice" := ⟨os, hos, hcs⟩
  unfold getItem
  try with_reducible refine wpAny_holding ?_
  first | refine wpAny_bind (wpAny_pure ?_) | skip
  refine wpAny_bind (wpAny_sequenceKey ht.typeIs (by decide) ?_)
  refine wpAny_bind (wpAny_callSpecial?_slot (name := Str.ofString "__getitem__") ht.typeIs PyProof.Rows.slot_tuple_getitem
    (wpAny_call_entry PyProof.Rows.slot_tuple_getitem ht.typeIs entry_tuple_getitem ?_ (args_tuple_getitem _ _)))
  show wpAny _ _ (Builtin.Tuple.tupleItemsOf (.ref t) >>= _) _ _ s
  refine wpAny_bind (tupleItemsOf_ ht ?_)
  refine wpAny_bind (wpAny_typeOf hTs ?_)
  rw [if_pos (by decide)]
  refine wpAny_bind (sliceApplied_rev (n := items.size) hs ps ?_)
  have hno : ¬ ((((items.size : Nat) : Int) - 1 == 0 && (-1 : Int) == 1 && items.size == items.size) = true) := by
    have : ((-1 : Int) == 1) = false := by decide
    rw [this]; simp
  show wpAny _ _ (if (((items.size : Nat) : Int) - 1 == 0 && (-1 : Int) == 1 && items.size == items.size) = true then _ else _) _ _ s
  rw [if_neg hno, pick_rev items]
  first
    | exact wpAny_bind (m := Builtin.Tuple.tupleExact _) (wpAny_newObj_type (wpAny_pure ⟨_, rfl, wpAny_pure h⟩) hdrop)
    | exact wpAny_bind (m := Builtin.Tuple.tupleExact _) (wpAny_newObj_type (wpAny_bind (wpAny_pure (wpAny_pure ⟨_, rfl, wpAny_pure h⟩))) hdrop)
    | exact wpAny_bind (wpAny_bind (m := Builtin.Tuple.tupleExact _) (wpAny_newObj_type (wpAny_pure (wpAny_pure ⟨_, rfl, wpAny_pure h⟩)) hdrop))
    | exact wpAny_bind (wpAny_bind (m := Builtin.Tuple.tupleExact _) (wpAny_newObj_type (wpAny_pure ⟨_, rfl, wpAny_pure h⟩) hdrop))
end
/-- x[::-1] of a list or a tuple -/
theorem pe_revA {X : Cx} {e : Expr} {te : TE} {p1 p2 p3 pos : Pos} {k : Nat} (he : PE X e te) :
    PE X (.Subscript e (.Slice none none (some (.UnaryOp .USub (.Constant (.int 1) k p1) p2)) p3) pos) (fun σ H Q => te σ H fun x H1 => (∃ a xs, x = .ref a ∧ SqL X.K H1 a xs ∧ ∀ p, H1 p = none → Q (.ref p) (upd H1 p (.lst xs.reverse))) ∨ (∃ a xs, x = .ref a ∧ SqT X.K H1 a xs ∧ ∀ p, H1 p = none → Q (.ref p) (upd H1 p (.tup xs.reverse)))) := by
  refine ⟨fun pins s σ H Q I h => ?_⟩
  refine Subscript_ (thn (he.run pins s σ H _ I h) fun v s1 ⟨x, H1, I1, r1, hq⟩ => ?_)
  have core : ∀ a, x = .ref a → (∀ (s2 : Shared) (t : Tok), Inv X pins σ H1 { s2 with heap := s2.heap.push { cls := .type "slice", data := .fields #[.none, .none, .int (-1) t] } } → Inv X pins σ H1 s2 →
      wpAny (model X.prog X.w) X.A (subscriptTail e (.Slice none none (some (.UnaryOp .USub (.Constant (.int 1) k p1) p2)) p3) (.ref a) (.ref s2.heap.objs.size)) (EP X pins σ Q) X.xe { s2 with heap := s2.heap.push { cls := .type "slice", data := .fields #[.none, .none, .int (-1) t] } }) →
      wpAny (model X.prog X.w) X.A (eval (.Slice none none (some (.UnaryOp .USub (.Constant (.int 1) k p1) p2)) p3) X.env) (fun i => wpAny (model X.prog X.w) X.A (subscriptTail e (.Slice none none (some (.UnaryOp .USub (.Constant (.int 1) k p1) p2)) p3) v i) (EP X pins σ Q) X.xe) X.xe s1 := by
    intro a ex go
    subst ex
    cases r1
    refine wpAny_Slice ?_
    rw [evalPart_none]
    refine wpAny_pure (wpAny_pure ?_)
    show wpAny _ _ (eval (.UnaryOp .USub (.Constant (.int 1) k p1) p2) X.env) _ _ s1
    refine thn ((pe_un un_neg (pe_int (X := X) (i := 1) (j := k) (pos := p1)) (pos := p2)).run pins s1 σ H1 (fun v H2 => v = .int (-1) ∧ H2 = H1) I1 ⟨1, rfl, rfl, rfl⟩) fun u s2 ⟨y, H2, I2, r2, e1, e2⟩ => ?_
    subst e1; subst e2
    obtain ⟨t, rfl⟩ := r2
    exact go s2 t (I2.kept (t' := s2.toks) fun b ob q => Heap.get?_push_of_some _ q) I2
  rcases hq with ⟨a, xs, ex, hs, q1⟩ | ⟨a, xs, ex, hs, q1⟩
  · refine core a ex fun s2 t I3 I2 => ?_
    obtain ⟨its', r', ht', hz'⟩ := I3.list hs
    refine tail_any (ops := _) ht'.isList.typeIs slot_list_getitem.lookup ?_ (by with_unfolding_all rfl)
    refine wpAny_getItem_list_slice (hi := none) (lo := none) (st := some (-1)) ht'.isList (Heap.IsSliceOf.new ..) .none .none (.int _ _) (by decide) ?_ (by rw [List.size_toArray, ← r'.length]; exact hz')
    rw [PySem.W.krv_pick]
    refine ⟨.ref _, _, I3.laid (t' := s2.toks) (o := .lst xs.reverse) (fun b ob q => Heap.get?_push_of_some _ q) (Nat.le_refl _) ?_, rfl, q1 _ (I3.hok.fresh (Nat.le_refl _))⟩
    exact ⟨by rw [List.length_reverse]; exact hz', its'.reverse, 0, r'.reverse, Heap.get?_push_size _ rfl⟩
  · refine core a ex fun s2 t I3 I2 => ?_
    obtain ⟨its', r', ht', hz'⟩ := I3.tuple hs
    refine tail_any (ops := _) ht'.typeIs PyProof.Rows.slot_tuple_getitem.lookup ?_ (by with_unfolding_all rfl)
    refine getItem_tuple_rev ht' (Heap.IsSliceOf.new ..) (.int _ _) ?_ (by rw [List.size_toArray, ← r'.length]; exact hz')
    refine ⟨.ref _, _, I3.laid (t' := s2.toks) (o := .tup xs.reverse) (fun b ob q => Heap.get?_push_of_some _ q) (Nat.le_refl _) ?_, rfl, q1 _ (I3.hok.fresh (Nat.le_refl _))⟩
    exact ⟨by rw [List.length_reverse]; exact hz', its'.reverse, r'.reverse, IsTup.new _ _⟩
end DV
set_option Elab.async false
set_option linter.all false
set_option maxRecDepth 100000
namespace DV
open PySem PySem.Spec PyProof.Rows L2
def eRev (a : EF) : EF := fun ρ S => (a ρ S).bind fun d S1 => match d with
  | .tup xs => .ok (.tup xs.reverse) S1
  | d => match lstOf d S1 with
    | some xs => .ok (.lst xs.reverse) S1
    | none => .no
theorem de_rev {X : Cx} {W : WX} {e : Expr} {fa : EF} {p1 p2 p3 pos : Pos} {k : Nat} (ha : DE X W e fa) : DE X W (.Subscript e (.Slice none none (some (.UnaryOp .USub (.Constant (.int 1) k p1) p2)) p3) pos) (eRev fa) :=
  pe_wk (pe_revA ha) fun σ H Q ⟨φ, ρ, S, er, sr, p⟩ => (lf.bind er sr p).imp fun x H1 ⟨φ1, S1, d, e1, sr1, r1, p1⟩ => by
    split at p1
    · cases r1 with
      | tup t rs => exact .inr ⟨_, _, rfl, t.sq, fun q hq => p1 φ1 _ _ (Ext.new hq) (sr1.new hq) (.tup (.inl (sr1.im hq)) (rs.reverse.mono (Ext.new hq)))⟩
    · split at p1
      · rename_i xs hx
        obtain ⟨l, us, rfl, g, rs⟩ := lstOf_ok sr1 r1 hx
        exact .inl ⟨_, us, rfl, .of g, fun q hq => p1 φ1 _ _ (Ext.new hq) (sr1.new hq) (.lst (sr1.im hq) (rs.reverse.mono (Ext.new hq)))⟩
      · exact p1.elim
def eqb (k : Bool) (v : Value) : Bool := match v with
  | .bool b => b == k
  | _ => false
theorem vals_bools : ∀ {bs : List Bool} {us : List Value}, Vals (bs.map V.bl) us → us = bs.map Value.bool
  | [], _, .nil => rfl
  | b :: bs, _, .cons r h => by
    cases r
    rw [vals_bools h]
    rfl
theorem eqb_count (k : Bool) : ∀ bs : List Bool, (bs.map Value.bool).countP (eqb k) = bs.count k
  | [] => rfl
  | b :: bs => by
    rw [List.map_cons, List.countP_cons, List.count_cons, eqb_count k bs]
    rfl
def rCntB (K : PySem.W.Frag) : V → List V → Hp → VK → Prop := fun x xs H Q => ∃ (p : Addr) (bs : List Bool) (k : Bool), x = .ref p ∧ xs = [.bl k] ∧ SqL K H p (bs.map V.bl) ∧ Q (.int (bs.count k : Nat)) H
theorem mt_bcount {X : Cx} : MtR X "list.count" (rCntB X.K) := by
  intro pins s σ H x xs v us Q I rx rxs h
  obtain ⟨p, bs, k, rfl, rfl, hs, q⟩ := h
  cases rx
  obtain ⟨u, rfl, ru⟩ := rxs.one
  cases ru
  obtain ⟨its, rv, ⟨⟨cls, dd, data, sl⟩, n, ho, hc, hdn, hd⟩, hlen⟩ := I.list hs
  simp only at hc hd
  subst hc hd
  have hi := vals_bools rv
  subst hi
  refine call_meets PySem.F.slot_list_count ⟨_, ho, rfl⟩ PySem.F.entry_list_count (PySem.F.args_list_count_2 _ _)
    (SeqAt.list_countAt p _ n dd sl (.bool k) (eqb k)) ⟨ho, fun y hy => ?_, ?_⟩
  · have hy' : y ∈ bs.map Value.bool := List.mem_toArray.mp hy
    obtain ⟨b, _, rfl⟩ := List.mem_map.mp hy'
    exact SeqAt.EqAt.bool_bool b k
  · refine ⟨.int (bs.count k : Nat), H, I.tok _, ⟨s.toks, ?_⟩, q⟩
    show Value.int (((bs.map Value.bool).countP (eqb k) : Nat) : Int) s.toks = Value.int ((bs.count k : Nat) : Int) s.toks
    rw [eqb_count]
def eCnt (a b : EF) : EF := fun ρ S => (a ρ S).bind fun l S1 => match lstOf l S1 with
  | some _ => (b ρ S1).bind fun d S2 => (match lstOf l S2 with
    | some xs => (match d, allBl xs with
      | .bl k, some bs => .ok (.int (bs.count k : Nat)) S2
      | _, _ => .no)
    | none => .no)
  | none => .no
theorem de_cnt {X : Cx} {W : WX} {w : Expr} {fa fb : EF} (h : PE X w (tBM X.K "list" (rCntB X.K) (lE X.K X.M W fa) (tCons (lE X.K X.M W fb) tNil))) : DE X W w (eCnt fa fb) :=
  pe_wk h fun σ H Q ⟨φ, ρ, S, er, sr, p⟩ => (lf.bind er sr p).imp fun x H1 ⟨φ1, S1, d, e1, sr1, r1, p1⟩ => by
    split at p1
    · rename_i ys hy
      obtain ⟨l, us, rfl, g, rs⟩ := lstOf_ok sr1 r1 hy
      refine ⟨.inl ⟨rfl, _, .of g⟩, ?_⟩
      refine (lf.bind (er.mono e1) sr1 p1).imp fun y H2 ⟨φ2, S2, d2, e2, sr2, r2, p2⟩ => ?_
      split at p2
      · rename_i xs hx
        split at p2
        · rename_i k bs hb
          obtain ⟨l2, us2, h2, g2, rs2⟩ := lstOf_ok sr2 (r1.mono e2) hx
          cases h2
          have := allBl_ok rs2 hb
          subst this
          cases r2
          exact ⟨_, bs, k, rfl, rfl, .of g2, p2 φ2 H2 _ Ext.rfl' sr2 (.int _)⟩
        · exact p2.elim
      · exact p2.elim
    · exact p1.elim
end DV
set_option Elab.async false
set_option linter.all false
set_option maxRecDepth 100000
namespace DV
open PySem PySem.Spec PyProof.Rows L2
theorem exT_ok {P : Program} {w : World} {H : Hp} {h : Heap} {a : Addr} {oe : Obj} (e : h.get? a = some oe) : ObjOk P w H h a (ExT oe a) := ⟨e, ⟨oe, e⟩, fun _ _ e k => k _ e⟩
section
variable {X : Cx} {pins : List (Addr × Obj)} {σ : L2.St} {H : Hp} {s : Shared}
/-- an object that nobody tracked is tracked from here on -/
theorem Inv.trk {a : Addr} {oe : Obj} {vs : Array Value} (I : Inv X pins σ H s) (ha : s.heap.get? a = some oe) (hd : oe.data = .fields vs) (na : H a = none) (nL : a ≠ X.env.locals)
    (n0 : X.s_0.heap.get? a = none) (np : ∀ p ∈ X.pn ++ pins, p.1 ≠ a) : Inv X pins σ (upd H a (ExT oe a)) s := by
  have ne0 : ∀ b o, X.s_0.heap.get? b = some o → b ≠ a := fun b o e z => by subst z; rw [n0] at e; cases e
  refine ⟨I.ok, I.os, I.bare, ⟨I.base.keep, I.base.slot, fun b o e n hx => ?_, I.base.there, fun b xs e => ?_, fun b o u e => ?_, fun b ps e => ?_⟩, I.loc, I.cell, ?_, fun x c e => ?_, fun p hp => ?_, fun b u e => ?_, I.len⟩
  · rw [upd_ne (ne0 b o e)]; exact I.base.free b o e n hx
  · have := I.base.tups b xs e
    rw [upd_ne (ne_of_none this na)]; exact this
  · have := I.base.frzs b o u e
    rw [upd_ne (ne_of_none this na)]; exact this
  · obtain ⟨more, this⟩ := I.base.tbls b ps e
    exact ⟨more, by rw [upd_ne (ne_of_none this na)]; exact this⟩
  · rw [upd_ne (fun z => nL z.symm)]; exact I.free
  · have hc : c ≠ a := fun z => by
      subst z
      obtain ⟨v, o, q, qd⟩ := I.cell x c e
      rw [ha] at q; cases q
      rw [hd] at qd; cases qd
    rw [upd_ne hc]; exact I.freeC x c e
  · obtain ⟨p1, p2, p3⟩ := I.pin p hp
    exact ⟨p1, by rw [upd_ne (np p hp)]; exact p2, p3⟩
  · by_cases hb : b = a
    · subst hb; rw [upd_same] at e; cases e
      exact exT_ok ha
    · rw [upd_ne hb] at e
      exact (I.hok b u e).stay (fun c v _ q => q) (fun c q => by rw [upd_ne (ne_of_none q na)]; exact q) fun c xs q => by rw [upd_ne (ne_of_none q na)]; exact q
theorem Inv.suiteT {a : Addr} {pn' : List (Addr × Obj)} (I : Inv X pins σ H s) : Inv (X.suite a (X.pn ++ pins)) [] σ H s :=
  ⟨I.ok.suite _ _, I.os, I.bare, I.base, I.loc, I.cell, I.free, I.freeC, fun p hp => I.pin p (by rw [List.append_nil] at hp; exact hp), I.hok, I.len⟩
theorem Inv.unsuiteT {a : Addr} {pn' : List (Addr × Obj)} (I : Inv (X.suite a (X.pn ++ pins)) pn' σ H s) (ok : X.Ok) : Inv X pins σ H s :=
  ⟨ok, I.os, I.bare, I.base, I.loc, I.cell, I.free, I.freeC, fun p hp => I.pin p (List.mem_append_left _ hp), I.hok, I.len⟩
end
/-- what a clause wishes of an exception that has no dict of its own: the suite has it in slot i, as an object that is tracked -/
def wTrk (K : PySem.W.Frag) (c : Value) (i : Nat) (ts : Addr → Obj → TS) (Wout : WX) (D : Ends) : WX := fun cls d σ H =>
  d = none ∧ ∃ b, PySem.W.exmOne K cls c = some b ∧ (b = false → Wout cls none σ H) ∧
    (b = true → ∀ a oe, Zc cls none oe → (∃ vs, oe.data = .fields vs) → H a = none → ts a oe ⟨fun τ G => D.nx (τ.set i none) G, D.rt, fun τ G => D.bk (τ.set i none) G, fun τ G => D.ct (τ.set i none) G⟩ (σ.set i (some (.ref a))) (upd H a (ExT oe a)))
section
variable {X : Cx} {x n : Str} {c cls : Value} {i : Nat} {a : Addr} {B h : Heap} {body suite : List Stmt} {b₀ : Stmt} {np pos pos' : Pos} {tb : WX → TS} {ts : Addr → Obj → TS} {Wout : WX} {pins : List (Addr × Obj)} {σ : L2.St} {H : Hp} {s sI : Shared} {D : Ends}
/-- the exception in the air stands apart from all that the frame has -/
structure Apart (X : Cx) (pins : List (Addr × Obj)) (sI : Shared) (a : Addr) : Prop where
  loc : a ≠ X.env.locals
  fs : a ∉ X.fs
  old : X.s_0.heap.get? a = none
  pin : ∀ p ∈ X.pn ++ pins, p.1 ≠ a
theorem apart_of (hex : X.ex = []) (hs : X.stack = X.env :: X.outer) (hf : X.env.frame = some X.env.locals) (J : Inv X pins σ H sI) (nb : ∀ b o, sI.heap.get? b = some o → b ∉ frs X.stack → B.get? b = some o)
    (fl : HandSPX.FlyingZ B (X.env :: X.outer) a (Zc cls none) h) : Apart X pins sI a := by
  obtain ⟨oe, vs, he, _, hd⟩ := fl.there
  have out : a ∉ frs (X.env :: X.outer) := by
    intro hm
    obtain ⟨_, o, e, q⟩ := Heap.FunFrames.mem fl.2.2.1 hm
    exact q vs (by rw [he] at e; cases e; exact hd)
  have gone : sI.heap.get? a = none := by
    cases q : sI.heap.get? a with
    | none => rfl
    | some o => have z := nb a o q (hs ▸ out); rw [fl.2.1] at z; exact (nomatch z)
  refine ⟨fun z => out ?_, fun hm => out ?_, ?_, fun p hp z => ?_⟩
  · exact List.mem_filterMap.mpr ⟨X.env, .head _, by rw [hf, z]⟩
  · obtain ⟨e, he', q⟩ := List.mem_filterMap.mp hm
    exact List.mem_filterMap.mpr ⟨e, .tail _ he', q⟩
  · cases q : X.s_0.heap.get? a with
    | none => rfl
    | some o =>
      obtain ⟨o', q'⟩ := J.base.there a o q (by rw [hex]; exact List.not_mem_nil)
      rw [gone] at q'; exact (nomatch q')
  · have := (J.pin p hp).1
    rw [z, gone] at this; exact (nomatch this)
/-- the class of the clause, looked up where the exception is handled -/
theorem named (hc : Names X x c) {pn : List (Addr × Obj)} (I : Inv (X.suite a pn) [] σ H s) {Q : Value → Shared → Prop} {E : Value → Shared → Prop} (q : Q c s) : wpAny (model X.prog X.w) (X.A.mark (some (.ref a))) (eval (.Name x np) X.env) Q E s := by
  rcases hc with ⟨g, d, m | ⟨m, v, k⟩⟩
  · exact ld_glob (X := X.suite a pn) I g m q d
  · exact ld_blt (X := X.suite a pn) I g m v q k d
/-- behind the suite the clause's name is gone -/
theorem left_ok (hN : X.N.Nodup) (hi : X.N[i]? = some n) (hln : X.env.kindOf n = some .local) (ok : X.Ok) {f : Flow} (z : SP (X.suite a (X.pn ++ pins)) [] ⟨fun τ G => D.nx (τ.set i none) G, D.rt, fun τ G => D.bk (τ.set i none) G, fun τ G => D.ct (τ.set i none) G⟩ f s) :
    wpAny (model X.prog X.w) X.A (do bindName X.env n .none; unbindBehindTheSuite X.env n pos') (fun _ t => SP X pins D f t) X.xe s := by
  cases f <;> first
    | exact let ⟨_, _, J, q⟩ := z; gone_ok (Inv.unsuiteT J ok) hN hi hln fun _ J' => ⟨_, _, J', q⟩
    | exact let ⟨_, _, _, J, r, q⟩ := z; gone_ok (Inv.unsuiteT J ok) hN hi hln fun _ J' => ⟨_, _, _, J', r, q⟩
theorem of_body (ok : X.Ok) {xe : Value → Shared → Prop} {f : Flow} (z : SP (X.tr (X.pn ++ pins) xe) [] D f s) : SP X pins D f s := by
  cases f <;> first
    | exact let ⟨τ, G, J, q⟩ := z; ⟨τ, G, J.ofTry ok, q⟩
    | exact let ⟨v, τ, G, J, r, q⟩ := z; ⟨v, τ, G, J.ofTry ok, r, q⟩
end
section
variable {X : Cx} {x n : Str} {c : Value} {i : Nat} {body suite : List Stmt} {b₀ : Stmt} {np pos pos' : Pos} {tb : WX → TS} {ts : Addr → Obj → TS} {Wout : WX}
/-- try: body / except x as n: suite, the exception being an object that is tracked from there on -/
theorem ps_try_trk (hex : X.ex = []) (hs : X.stack = X.env :: X.outer) (hf : X.env.frame = some X.env.locals) (hN : X.N.Nodup) (hi : X.N[i]? = some n) (hln : X.env.kindOf n = some .local) (hc : Names X x c) (tk : Takes X Wout)
    (hb : ∀ (W : WX) (pn : List (Addr × Obj)) (xe : Value → Shared → Prop), Takes (X.tr pn xe) W → PassesOwn (model X.prog X.w) X.A X.env xe → PSs (X.tr pn xe) body (tb W))
    (hsu : ∀ (a : Addr) (oe : Obj) (pn : List (Addr × Obj)), PSs (X.suite a pn) (b₀ :: suite) (ts a oe)) :
    PS X (.Try body [.ExceptHandler (some (.Name x np)) (some n) (b₀ :: suite) pos'] [] [] pos) (fun D σ H => tb (wTrk X.K c i ts Wout D) D σ H) := by
  constructor
  intro pins s σ H D I h
  have hfr : X.A.frames = some (X.env :: X.outer) := hs ▸ I.ok.frames
  have caught : Takes (X.tr (X.pn ++ pins) fun e s1 => wpAny (model X.prog X.w) X.A (noteFrame e X.env) (fun _ s2 => wpAny (model X.prog X.w) X.A (setFlight e none)
      (fun _ s3 => wpAny (model X.prog X.w) X.A (handleBy e X.env [.ExceptHandler (some (.Name x np)) (some n) (b₀ :: suite) pos']) (SP X pins D) X.xe s3) X.xe s2) X.xe s1) (wTrk X.K c i ts Wout D) := by
    rintro _ s' ⟨a, B, sI, _, σ', H', cls, d, rfl, J0, nb, up, sky, na, os, ag, rfl, b, hb1, hno, hyes⟩
    have J := J0.ofTry I.ok
    refine Sky.land Zc.steady hfr hf (hs ▸ sky) fun h3 fl3 up3 => ?_
    have ap := apart_of hex hs hf J nb fl3
    have J3 := J.landed (s' := { s' with heap := h3 }) nb fl3.1 (up.trans up3) os ag
    have ⟨oe, vs, he, hz, hd⟩ := fl3.there
    refine wpAny_handleBy_cons (codeAny_handlers_test ?_) (fun q => by cases q)
    refine named hc (J3.suite he hd na ap.loc ap.fs) ?_
    refine (PySem.W.exm_one (M := model X.prog X.w) J3.kIn (fun A Q E s k q => wpAny_typeOf_ref (k _ _ he) (by rw [hz.1]; exact q)) hb1).here ?_
    cases b
    · show wpAny _ X.A (handleBy (.ref a) X.env []) _ _ _
      apply wpAny_handleBy_nil
      have ⟨_, _, _, o5, v5, T, _, _, e5, _, d5, h5, _⟩ := fl3
      unfold PySem.passOn
      refine wpAny_bind (wpAny_field e5 d5 h5 ?_)
      have off : wpAny (model X.prog X.w) X.A (setFlight (.ref a) X.env.frame) (fun _ s4 => wpAny (model X.prog X.w) X.A (throw (.ref a) : Sem Flow) (SP X pins D) X.xe s4) X.xe { s' with heap := h3 } :=
        hf ▸ HandSPX.setFlight_upZ fl3 fun h4 up4 u4 => wpAny_throw (tk _ _ ⟨a, B, sI, pins, σ', H', cls, none, rfl, J, nb, (up.trans up3).trans u4, .inr (.inr (hs ▸ up4)), na, os, ag, hno rfl⟩)
      rw [if_neg (by simp)]
      first | exact wpAny_bind (wpAny_pure (wpAny_bind off)) | exact wpAny_bind off
    · refine codeAny_handlers_suite_as (HandSPX.lands_againZ fl3 fun h4 fl4 up4 => ?_)
      have ⟨o4, v4, e4, z4, d4⟩ := fl4.there
      have J4 := J.landed (s' := { s' with heap := h4 }) nb fl4.1 ((up.trans up3).trans up4) os ag
      refine store_ok (X := X.suite a (X.pn ++ pins)) (v := .ref a) (Inv.suiteT (a := a) (pn' := []) (Inv.trk J4 e4 d4 na ap.loc ap.old ap.pin)) hN hi (.inl hln) rfl (fun s5 S5 => ?_) (.inr hln)
      exact wpAny_mono ((hsu a o4 (X.pn ++ pins)).run [] s5 _ _ _ S5 (hyes rfl a o4 z4 ⟨_, d4⟩ na)) (fun f s6 z => left_ok hN hi hln I.ok z) fun _ _ z => z.elim
  refine wpAny_Try_except (wpAny_mono ((hb _ _ _ caught PassesOwn.looking).run [] s σ H D (I.toTry _) h) (fun f s1 z => ?_) fun _ _ z => z)
  cases f
  · exact wpAny_execs_nil (of_body I.ok z)
  all_goals exact of_body I.ok z
end
end DV
namespace DV
open PySem PySem.Spec PyProof.Rows L2
def sRaise (c : Str) : SF := fun ρ S => .ex c ρ S
/-- a class whose instances are raised: over ValueError, without an __init__ of its own -/
structure XC (K : PySem.W.Frag) (mg : Str → Option Value) (c : Str) : Prop where
  ex : ∃ C, mg c = some (.ref C) ∧ PySem.W.excIn K C [.type "ValueError", .type "Exception", .type "BaseException", .type "object"] "ValueError.__new__" = true ∧ PySem.W.keepIn K (.ref C) = true ∧
    PySem.W.subIn K (.ref C) (.type "BaseException") = some true ∧ PySem.W.typeIn K (.ref C) = some (.type "type")
theorem ds_raise {X : Cx} {W : WX} {c m : Str} {j : Nat} {p p2 p3 pos : Pos} (hc : X.calm = true) (tk : Takes X W) (hx : XC X.K X.mg c) (hg : Gl X c) (hd : (c == ("__debug__" : Str)) = false := by decide) :
    DS X W (.Raise (some (.Call (.Name c p) [.Constant (.str m) j p2] [] p3)) none pos) (sRaise c) := by
  obtain ⟨C, gC, q, kC, r1, r2⟩ := hx.ex
  refine ps_wk (ps_raise hc tk (pmk_own PySem.F.excBase_ValueError q gC kC (raises_own r1 r2) hg hd)) fun N σ H ⟨φ, ρ, S, er, sr, p⟩ => ?_
  obtain ⟨C', e, h⟩ := p
  cases gC.symm.trans e
  exact h φ σ H Ext.rfl' sr er
/-- the suite's ends: the clause's name is gone -/
def outR (i : Nat) : SR → SR
  | .nx ρ S => .nx (ρ.set i none) S
  | .bk ρ S => .bk (ρ.set i none) S
  | .ct ρ S => .ct (ρ.set i none) S
  | .rt d S => .rt d S
  | _ => .no
def sTry (sub : Str → Option Bool) (i : Nat) (f g : SF) : SF := fun ρ S => match f ρ S with
  | .ex c ρ1 S1 => (match sub c with
    | some true => outR i (g (ρ1.set i (some (.exc c))) S1)
    | some false => .ex c ρ1 S1
    | none => .no)
  | r => r
/-- which classes the clause takes -/
def Catch (K : PySem.W.Frag) (mg : Str → Option Value) (cv : Value) (sub : Str → Option Bool) : Prop := ∀ c b, sub c = some b → ∃ C, mg c = some (.ref C) ∧ PySem.W.exmOne K (.ref C) cv = some b
theorem Er.unset {K : PySem.W.Frag} {mg : MG} {φ : List Addr} {H : Hp} {σ : L2.St} {ρ : Lc} (er : Er K mg φ H σ ρ) (i : Nat) : Er K mg φ H (σ.set i none) (ρ.set i none) := by
  refine ⟨by simp [er.len], fun j d h => ?_⟩
  rw [List.getElem?_set] at h ⊢
  by_cases hj : i = j
  · rw [if_pos hj] at h; split at h <;> cases h
  · rw [if_neg hj] at h ⊢; exact er.at' j d h
theorem ds_try {X : Cx} {W : WX} {x n : Str} {cv : Value} {i : Nat} {body suite : List Stmt} {b₀ : Stmt} {np pos pos' : Pos} {f g : SF} {sub : Str → Option Bool} (hex : X.ex = []) (hs : X.stack = X.env :: X.outer) (hf : X.env.frame = some X.env.locals)
    (hN : X.N.Nodup) (hi : X.N[i]? = some n) (hln : X.env.kindOf n = some .local) (hc : Names X x cv) (tk : Takes X W) (hsub : Catch X.K X.mg cv sub)
    (hb : ∀ (W' : WX) (pn : List (Addr × Obj)) (xe : Value → Shared → Prop), Takes (X.tr pn xe) W' → PassesOwn (model X.prog X.w) X.A X.env xe → DSs (X.tr pn xe) W' body f)
    (hsu : ∀ (a : Addr) (pn : List (Addr × Obj)), DSs (X.suite a pn) wF (b₀ :: suite) g) :
    DS X W (.Try body [.ExceptHandler (some (.Name x np)) (some n) (b₀ :: suite) pos'] [] [] pos) (sTry sub i f g) := by
  refine ps_wk (ps_try_trk (ts := fun _ _ => lS X.K X.M wF g) (tb := fun W' => lS X.K X.M W' f) hex hs hf hN hi hln hc tk hb fun a oe pn => hsu a pn) fun N σ H ⟨φ, ρ, S, er, sr, p⟩ => ?_
  refine ⟨φ, ρ, S, er, sr, ?_⟩
  unfold sTry at p
  cases e : f ρ S with
  | ex c ρ1 S1 =>
    rw [e] at p
    simp only at p
    cases hb : sub c with
    | none => rw [hb] at p; exact p.elim
    | some b =>
      rw [hb] at p
      obtain ⟨C, gC, hm⟩ := hsub c b hb
      refine ⟨C, gC, fun φ' σ' H' e' sr' er' => ⟨rfl, b, hm, fun hz => ?_, fun hz a oe hzc hfd na => ?_⟩⟩
      · subst hz
        obtain ⟨C', e2, h⟩ := p
        cases gC.symm.trans e2
        exact h φ' σ' H' e' sr' er'
      · subst hz
        have p := postS.mono e' p
        have en := Ext.new (φ := φ') (o := ExT oe a) na
        refine ⟨φ', _, S1, (er'.mono en).set (.exc gC ⟨hzc, hfd⟩ (sr'.im na)) i, sr'.new na, ?_⟩
        have p := postS.mono en p
        cases e2 : g (ρ1.set i (some (.exc c))) S1 with
        | nx ρ2 S2 => rw [e2] at p; exact fun φ2 σ2 H2 x s r => p φ2 _ H2 x s (r.unset i)
        | bk ρ2 S2 => rw [e2] at p; exact fun φ2 σ2 H2 x s r => p φ2 _ H2 x s (r.unset i)
        | ct ρ2 S2 => rw [e2] at p; exact fun φ2 σ2 H2 x s r => p φ2 _ H2 x s (r.unset i)
        | rt d S2 => rw [e2] at p; exact p
        | ex c2 ρ2 S2 => rw [e2] at p; exact p.elim
        | no => rw [e2] at p; exact p.elim
  | nx ρ1 S1 => rw [e] at p; exact p
  | rt d S1 => rw [e] at p; exact p
  | bk ρ1 S1 => rw [e] at p; exact p
  | ct ρ1 S1 => rw [e] at p; exact p
  | no => rw [e] at p; exact p
theorem call_isT {X : Cx} : CallR X (.builtin "isinstance") (fun xs H Q => ∃ (a D : Addr) (oe : Obj) (c : V) (cv : Value) (b : Bool), xs = [.ref a, c] ∧ H a = some (ExT oe a) ∧ IsX D oe ∧ ExcC X.K D ∧ ClsV c cv ∧ PySem.W.kitOne X.K (.ref D) cv = some b ∧ Q (.bl b) H) := by
  rintro pins s σ H xs us Q I r ⟨a, D, oe, c, cv, b, rfl, ha, ⟨hz, vs, hv⟩, C, hc, e, q⟩
  obtain ⟨u1, u2, rfl, r1, r2⟩ := vals2 r
  cases r1
  have := hc.eq r2
  subst this
  have hget : s.heap.get? a = some oe := (show ObjOk X.prog X.w H s.heap a (ExT oe a) from I.hok a _ ha).1
  have J : PySem.W.InstAt s.heap a oe D none := by
    cases oe with
    | mk oc od oda osl =>
      obtain ⟨rfl, rfl⟩ := hz
      cases hv
      exact ⟨hget, rfl, rfl, trivial⟩
  exact PySem.W.kia_one (PySem.W.handS_kitx_exc C.hg C.hk C.hs C.hd C.ha C.hn C.ht C.hm) I.kIn J e (fun z => by cases z) fun tk => ⟨.bl b, H, I.kept (t' := tk) fun _ _ z => z, rfl, q⟩
/-- the answers for the class cv, by the names of the exceptions' classes -/
def IsTab (K : PySem.W.Frag) (mg : Str → Option Value) (cv : Value) (sub : Str → Option Bool) : Prop := ∀ c b, sub c = some b → ∃ D, mg c = some (.ref D) ∧ ExcC K D ∧ PySem.W.kitOne K (.ref D) cv = some b
def eIsX (a : EF) (sub : Str → Option Bool) : EF := fun ρ S => (a ρ S).bind fun d S1 => match d with
  | .exc c => (match sub c with
    | some b => .ok (.bl b) S1
    | none => .no)
  | _ => .no
theorem de_isx {X : Cx} {W : WX} {w : Expr} {fa : EF} {c : V} {cv : Value} {sub : Str → Option Bool} (hc : ClsV c cv) (hsub : IsTab X.K X.mg cv sub)
    (h : PE X w (tCB (fun xs H Q => ∃ (a D : Addr) (oe : Obj) (c : V) (cv : Value) (b : Bool), xs = [.ref a, c] ∧ H a = some (ExT oe a) ∧ IsX D oe ∧ ExcC X.K D ∧ ClsV c cv ∧ PySem.W.kitOne X.K (.ref D) cv = some b ∧ Q (.bl b) H) (tCons (lE X.K X.M W fa) (tCons (tC c) tNil)))) : DE X W w (eIsX fa sub) :=
  pe_wk h fun σ H Q ⟨φ, ρ, S, er, sr, p⟩ => (lf.bind er sr p).imp fun x H1 ⟨φ1, S1, d, e1, sr1, r1, p1⟩ => by
    split at p1
    · split at p1
      · rename_i b hb
        cases r1 with
        | exc gC hx t =>
          obtain ⟨D, gD, eD, hk⟩ := hsub _ _ hb
          cases gC.symm.trans gD
          exact ⟨_, _, _, c, cv, b, rfl, t.2, hx, eD, hc, hk, p1 φ1 H1 _ Ext.rfl' sr1 (.bl _)⟩
      · exact p1.elim
    · exact p1.elim
end DV
set_option Elab.async false
set_option linter.all false
set_option maxRecDepth 100000
namespace DV
open PySem PySem.Spec PyProof.Rows L2
def lookK {α : Type} (f : Str) : List Str → List α → Option α
  | k :: ks, v :: vs => if k = f then some v else lookK f ks vs
  | _, _ => none
def putK (f : Str) : List Str → List Str
  | [] => [f]
  | k :: ks => if k = f then k :: ks else k :: putK f ks
def putW {α : Type} (f : Str) (y : α) : List Str → List α → List α
  | [], _ => [y]
  | k :: ks, v :: vs => if k = f then y :: vs else v :: putW f y ks vs
  | _ :: _, [] => []
section
end
/-- the instance: by value or of the store -/
def insOf (c : Str) : D → Sto → Option (List Str × List D)
  | .ins c' ks vs, _ => if c' = c then some (ks, vs) else none
  | .ob n, S => match S[n]? with
    | some (.ins c' ks vs) => if c' = c then some (ks, vs) else none
    | _ => none
  | _, _ => none
def eFld (c f : Str) (a : EF) : EF := fun ρ S => (a ρ S).bind fun d S1 => match insOf c d S1 with
  | some (ks, vs) => (match lookK f ks vs with
    | some x => .ok x S1
    | none => .no)
  | none => .no
/-- o.f = e, o an object of the store -/
def putI (c f : Str) (d v : D) (S : Sto) : Option Sto := match d with
  | .ob n => match S[n]? with
    | some (.ins c' ks vs) => if c' = c ∧ ks.length < 900 then some (S.set n (.ins c (putK f ks) (putW f v ks vs))) else none
    | _ => none
  | _ => none
def sFld (c f : Str) (a e : EF) : SF := fun ρ S => (e ρ S).sb ρ fun v S1 => (a ρ S1).sb ρ fun d S2 => match putI c f d v S2 with
  | some S3 => .nx ρ S3
  | none => .no
section
end
/-- a call from which no exception is to leave -/
def Res.noex {α : Type} : Res α → Res α
  | .ex _ _ => .no
  | r => r
theorem post.noex {K : PySem.W.Frag} {mg : MG} {W : WX} {φ : List Addr} {H : Hp} {σ : L2.St} {Q : VK} : ∀ {r : Res D}, post (Rp K mg) K mg W φ H σ Q r.noex → ∀ W' σ', post (Rp K mg) K mg W' φ H σ' Q r
  | .ok _ _, h, _, _ => h
  | .ex _ _, h, _, _ => h.elim
  | .no, h, _, _ => h
def eMeth (c m : Str) (F : FF) (a : EF) (ga : AF) : EF := fun ρ S => (a ρ S).bind fun d S1 => match insOf c d S1 with
  | some (ks, vs) => if (lookK m ks vs).isSome then .no else (ga ρ S1).bind fun ds S2 => (F (d :: ds) S2).noex
  | none => .no
/-- C(..): eMakeS: an object of the store; eMake: by value -/
def makeR (c : Str) (F : FF) (ds : List D) (S : Sto) : Res D := match F (.ob S.length :: ds) (S ++ [.ins c [] []]) with
  | .ok .non S2 => .ok (.ob S.length) S2
  | _ => .no
def eMakeS (c : Str) (F : FF) (ga : AF) : EF := fun ρ S => (ga ρ S).bind fun ds S1 => makeR c F ds S1
end DV
set_option Elab.async false
set_option linter.all false
set_option maxRecDepth 100000
namespace DV
open PySem PySem.Spec PyProof.Rows L2
def RoomG (k : Nat) (A : Around) : Prop := Room k A ∧ A.guards = some []
theorem RoomG.mono {j k : Nat} {A : Around} (r : RoomG k A) (h : j ≤ k) : RoomG j A := ⟨r.1.mono h, r.2⟩
theorem RoomG.deeper {k : Nat} {A : Around} (r : RoomG (k + 1) A) (env : Env) : RoomG k (A.deeper env) := ⟨r.1.deeper env, r.2⟩
/-- a def that keeps its promise wherever Φ says so of what is around -/
structure FnW (Φ : Around → Prop) (P : Program) (w : World) (K : PySem.W.Frag) (mg : Str → Option Value) (base : Heap) (CX : CXT) (f : Addr) (fd : FuncData) (ps : List Str) (sp : Sp) : Prop where
  len : ∀ vs H Q E, sp vs H Q E → vs.length = ps.length
  run : ∀ (A : Around) (outer : List Env) (s : Shared) (H : Hp) (args : Args) (us : List Value) (vs : List V) (Q : VK) (E : XK), Φ A → Env0 P w K mg base A outer s H → BindsTo s fd args (ps.zip us) → Vals vs us → sp vs H Q E →
    codeAny (model P w) A (.call (.ref f) args) (CR CX outer P w H s Q E) s
theorem FnW.of {Φ : Around → Prop} {P : Program} {w : World} {K : PySem.W.Frag} {mg : Str → Option Value} {base : Heap} {CX : CXT} {k : Nat} {f : Addr} {fd : FuncData} {ps : List Str} {sp : Sp} (F : FnOk P w K mg base CX k f fd ps sp) (h : ∀ A, Φ A → Room k A) :
    FnW Φ P w K mg base CX f fd ps sp := ⟨F.len, fun A outer s H args us vs Q E z => F.run A outer s H args us vs Q E (h A z)⟩
theorem FnW.mono {Φ Ψ : Around → Prop} {P : Program} {w : World} {K : PySem.W.Frag} {mg : Str → Option Value} {base : Heap} {CX : CXT} {f : Addr} {fd : FuncData} {ps : List Str} {sp : Sp} (F : FnW Φ P w K mg base CX f fd ps sp) (h : ∀ A, Ψ A → Φ A) :
    FnW Ψ P w K mg base CX f fd ps sp := ⟨F.len, fun A outer s H args us vs Q E z => F.run A outer s H args us vs Q E (h A z)⟩
theorem FnW.imp {Φ : Around → Prop} {P : Program} {w : World} {K : PySem.W.Frag} {mg : Str → Option Value} {base : Heap} {CX : CXT} {f : Addr} {fd : FuncData} {ps : List Str} {sp sp' : Sp} (F : FnW Φ P w K mg base CX f fd ps sp) (h : ∀ vs H Q E, sp' vs H Q E → sp vs H Q E) :
    FnW Φ P w K mg base CX f fd ps sp' := ⟨fun vs H Q E q => F.len vs H Q E (h _ _ _ _ q), fun A outer s H args us vs Q E z he hb hv hs => F.run A outer s H args us vs Q E z he hb hv (h _ _ _ _ hs)⟩
theorem FnW.ok {P : Program} {w : World} {K : PySem.W.Frag} {mg : Str → Option Value} {base : Heap} {CX : CXT} {k : Nat} {f : Addr} {fd : FuncData} {ps : List Str} {sp : Sp} (F : FnW (Room k) P w K mg base CX f fd ps sp) : FnOk P w K mg base CX k f fd ps sp := ⟨F.len, F.run⟩
section
variable {CX : CXT} {P : Program} {w : World} {K : PySem.W.Frag} {mg : Str → Option Value} {base : Heap} {N ps : List Str} {qual : Str} {scope : Scope} {f : Addr} {cd : Value} {A : Around} {outer : List Env} {s s1 : Shared} {H : Hp} {E : XK} {us : List Value} {vs : List V}
/-- the context of a body that says nothing of what is handled -/
abbrev cxQ (CX : CXT) (P : Program) (w : World) (K : PySem.W.Frag) (mg : Str → Option Value) (base : Heap) (N : List Str) (qual : Str) (scope : Scope) (f : Addr) (cd : Value) (A : Around) (outer : List Env) (s : Shared) (H : Hp) (E : XK) : Cx :=
  { cxOf CX P w K mg base N qual scope f cd A outer s H E with calm := false }
theorem inv_startQ (S : FnScope N ps scope) (e0 : Env0 P w K mg base A outer s H) (hl : vs.length = ps.length) (r : Vals vs us)
    (x : InCallC s s.heap.objs.size (bindL (envOfC qual scope s.heap.objs.size f cd).kindOf (ps.zip us) fun _ => none) (cellsFrom (s.heap.objs.size + 1) scope.names []) (bindC (envOfC qual scope s.heap.objs.size f cd).kindOf (ps.zip us) fun _ => none) s1) :
    Inv (cxQ CX P w K mg base N qual scope f cd A outer s H E) [] (L2.start N vs) H s1 := by
  have e1 : Env0 P w K mg base { A with handled := none } outer s H := ⟨e0.frames, e0.mod, e0.bs, e0.bsz, e0.funs, e0.frf, e0.hok, e0.bare⟩
  have I := inv_start (CX := CX) (E := E) (qual := qual) (f := f) (cd := cd) S (A := { A with handled := none }) rfl e1 hl r x
  have o := I.ok
  exact ⟨⟨o.mod, o.kind, o.glob, o.blt, o.above, o.inj, o.has, o.cab, fun z => Bool.noConfusion (show false = true from z), o.frames, o.stk, o.exf, o.bs, o.bsz, o.noex, o.exfs, o.funs, o.frf⟩, I.os, I.bare, I.base, I.loc, I.cell, I.free, I.freeC, I.pin, I.hok, I.len⟩
/-- a body's walk, in either context, is a call's -/
theorem call_body {X : Cx} {body : List Stmt} {t : TS} {Q : VK} (hX : X.stack = envOfC qual scope s.heap.objs.size f cd :: outer) (ho : X.outer = outer) (hs0 : X.s_0 = s) (hH0 : X.H_0 = H) (hex : X.ex = []) (hp : X.prog = P) (hw : X.w = w) (hA : X.A = A.deeper (envOfC qual scope s.heap.objs.size f cd))
    (henv : X.env = envOfC qual scope s.heap.objs.size f cd) (ht : PSs X body t) {σ : L2.St} (I : Inv X [] σ H s1) (hq : t { nx := fun _ H' => Q .non H', rt := Q } σ H)
    {E' : Value → Shared → Prop} (hxe : X.xe = E') {R : Flow → Shared → Prop} (hret : ∀ u s', CE outer P w H s Q u s' → R (.ret u) s') (hnx : ∀ s', CE outer P w H s Q .none s' → R .next s') :
    wpAny (model P w) (A.deeper (envOfC qual scope s.heap.objs.size f cd)) (execs body (envOfC qual scope s.heap.objs.size f cd)) R E' s1 := by
  subst hp hw hs0 hH0 ho hxe
  rw [← hA, ← henv]
  refine wpAny_mono (ht.run [] s1 σ _ _ I hq) (fun fl s' z => ?_) fun _ _ z => z
  have base : ∀ {σ' : L2.St} {H' : Hp}, Inv X [] σ' H' s' → Un (frs X.outer) [] X.H_0 H' X.s_0.heap s'.heap := fun {σ' H'} J => by have := J.base; rw [hex] at this; exact this
  cases fl with
  | ret u => exact let ⟨v, _, H', J, rv, q⟩ := z; hret u s' ⟨v, H', J.os, J.bare, base J, J.hok, rv, q⟩
  | next => exact let ⟨_, H', J, q⟩ := z; hnx s' ⟨.non, H', J.os, J.bare, base J, J.hok, rfl, q⟩
  | brk => exact let ⟨_, _, _, q⟩ := z; q.elim
  | cont => exact let ⟨_, _, _, q⟩ := z; q.elim
end
section
variable {CX : CXT} {P : Program} {w : World} {K : PySem.W.Frag} {mg : Str → Option Value} {base : Heap} {N ps : List Str} {name qual : Str} {scope : Scope} {f : Addr} {params : Arguments} {body : List Stmt} {dV kV doc pm cdv ct oc : Value} {an od : Option Addr} {osl : Array (Option Value)} {sp : Sp} {Φ Ψ : Around → Prop} {cx : Around → List Env → Shared → Hp → XK → Cx}
/-- what a context must be, so that a body's walk in it is a call's -/
structure CxFor (CX : CXT) (P : Program) (w : World) (K : PySem.W.Frag) (mg : Str → Option Value) (base : Heap) (N : List Str) (qual : Str) (scope : Scope) (f : Addr) (cd : Value) (Ψ : Around → Prop) (cx : Around → List Env → Shared → Hp → XK → Cx) : Prop where
  like : ∀ A outer s H E, cx A outer s H E = { cxOf CX P w K mg base N qual scope f cd A outer s H E with calm := (cx A outer s H E).calm }
  start : ∀ (A : Around) (outer : List Env) (s s1 : Shared) (H : Hp) (E : XK) (ps : List Str) (us : List Value) (vs : List V), Ψ (A.deeper (envOfC qual scope s.heap.objs.size f cd)) → FnScope N ps scope → Env0 P w K mg base A outer s H → vs.length = ps.length → Vals vs us →
    InCallC s s.heap.objs.size (bindL (envOfC qual scope s.heap.objs.size f cd).kindOf (ps.zip us) fun _ => none) (cellsFrom (s.heap.objs.size + 1) scope.names []) (bindC (envOfC qual scope s.heap.objs.size f cd).kindOf (ps.zip us) fun _ => none) s1 →
    Inv (cx A outer s H E) [] (L2.start N vs) H s1
theorem fnW_of (C : CxFor CX P w K mg base N qual scope f cdv Ψ cx) (lk : K.lookup f = some ⟨oc, od, .func (PySem.W.fnOf name qual params body scope dV kV doc pm an cdv ct), osl⟩) (hcd : PySem.W.codeIn K cdv qual = true) (S : FnScope N ps scope)
    (hd : ∀ A, Φ A → A.depth < recursionLimit) (hΨ : ∀ A env, Φ A → Ψ (A.deeper env)) (len : ∀ vs H Q E, sp vs H Q E → vs.length = ps.length)
    (hbody : ∀ (A : Around) (outer : List Env) (s : Shared) (H : Hp) (vs : List V) (Q : VK) (E : XK), Ψ (A.deeper (envOfC qual scope s.heap.objs.size f cdv)) → sp vs H Q E →
      ∃ t, PSs (cx A outer s H E) body t ∧ t { nx := fun _ H' => Q .non H', rt := Q } (L2.start N vs) H) :
    FnW Φ P w K mg base CX f (PySem.W.fnOf name qual params body scope dV kV doc pm an cdv ct) ps sp := by
  refine ⟨len, fun A outer s H args us vs Q E hr e0 hb r hsp => ?_⟩
  have kin : K.In s.heap := e0.mod.kin.keeps fun b o e => (e0.bs b o e).1
  refine codeAny_call_function (hd A hr) (kin _ _ lk) rfl S.co S.gen rfl (PySem.W.codeRec_of kin hcd) (hb _ _ _ _ ?_)
  refine wpAny_newFunctionEnv_cells S.kind (fun y hy => ?_) fun env he s1 x => ?_
  · rcases S.par y.1 (List.of_mem_zip (show (y.1, y.2) ∈ ps.zip us from hy)).1 with q | q
    · exact .inl q
    · exact .inr ⟨q, PySem.W.cellsFrom_some _ _ _ (.inl q)⟩
  subst he
  have kl : s.heap.NoLimit := e0.mod.nolimit.keeps fun b o e => (e0.bs b o e).1
  refine ⟨kl.keeps x.toInCall.keep, codeAny_func ?_⟩
  have hψ := hΨ A (envOfC qual scope s.heap.objs.size f cdv) hr
  obtain ⟨t, ht, hq⟩ := hbody A outer s H vs Q E hψ hsp
  have I := C.start A outer s s1 H E ps us vs hψ S e0 (len _ _ _ _ hsp) r x
  rw [C.like] at ht I
  exact call_body (X := { cxOf CX P w K mg base N qual scope f cdv A outer s H E with calm := (cx A outer s H E).calm }) rfl rfl rfl rfl rfl rfl rfl rfl rfl ht I hq rfl (fun u s' z => z) fun s' z => z
theorem cxFor_ok : CxFor CX P w K mg base N qual scope f cdv (fun A => A.handled = none) (fun A outer s H E => cxOf CX P w K mg base N qual scope f cdv A outer s H E) :=
  ⟨fun _ _ _ _ _ => rfl, fun A outer s s1 H E ps us vs h S e0 hl r x => inv_start S h e0 hl r x⟩
theorem cxFor_q : CxFor CX P w K mg base N qual scope f cdv (fun _ => True) (fun A outer s H E => cxQ CX P w K mg base N qual scope f cdv A outer s H E) :=
  ⟨fun _ _ _ _ _ => rfl, fun A outer s s1 H E ps us vs _ S e0 hl r x => inv_startQ S e0 hl r x⟩
theorem CxFor.weak {cd : Value} (C : CxFor CX P w K mg base N qual scope f cd Ψ cx) {Ψ' : Around → Prop} (h : ∀ A, Ψ' A → Ψ A) : CxFor CX P w K mg base N qual scope f cd Ψ' cx :=
  ⟨C.like, fun A outer s s1 H E ps us vs z => C.start A outer s s1 H E ps us vs (h _ z)⟩
end
section
variable {X : Cx} {CX : CXT} {Φ : Around → Prop} {f : Addr} {fd : FuncData} {ps : List Str} {sp : Sp} {E : L2.St → XK} {x : Str} {p pos : Pos} {e : Expr} {es : List Expr} {t : TA}
theorem run_fnW {pins : List (Addr × Obj)} {σ : L2.St} {H : Hp} {s : Shared} {Q : VK} {us : List Value} {vs : List V} (F : FnW Φ X.prog X.w X.K X.mg X.base CX f fd ps sp) (hr : Φ X.A) (hb : Binds X.K fd ps []) (hx : PassesAt CX X σ (E σ))
    (I : Inv X pins σ H s) (r : Vals vs us) (h : sp vs H Q (E σ)) : wpAny (model X.prog X.w) X.A (call (.ref f) us) (EP X pins σ Q) X.xe s := by
  have b := hb s us I.kIn (by rw [List.append_nil, ← r.length]; exact F.len _ _ _ _ h)
  rw [List.append_nil] at b
  refine wpAny_call (codeAny_mono (F.run X.A X.stack s H ⟨us, []⟩ us vs Q (E σ) hr I.env0 b r h) fun z s' hq => ?_)
  rcases z with e | fl
  · exact hx pins H s e s' I hq
  · cases fl <;> first | exact I.after hq | exact hq.elim
theorem pe_callW (F : FnW Φ X.prog X.w X.K X.mg X.base CX f fd ps sp) (hr : Φ X.A) (hg : Gl X x) (hm : X.mg x = some (.ref f)) (hk : PySem.W.keepIn X.K (.ref f) = true) (hb : Binds X.K fd ps []) (hx : ∀ σ, PassesAt CX X σ (E σ))
    (ha : PA X (e :: es) t) (hdb : (x == ("__debug__" : Str)) = false := by decide) (he : starEach (e :: es) X.env = (false, eval e X.env) :: starEach es X.env := by rfl) (hpl : (backTo pos (starEach es X.env)).any (·.1) = false := by rfl) :
    PE X (.Call (.Name x p) (e :: es) [] pos) (tCallS sp E t) := by
  constructor
  intro pins s σ H Q I h
  have args := thn (ha.run pos pins s σ H _ I h) fun us s1 (z : AP X pins σ (fun vs H1 => sp vs H1 Q (E σ)) us s1) => let ⟨_, _, I1, r, q⟩ := z; (⟨I1.kIn, run_fnW F hr hb (hx σ) I1 r q⟩ : X.K.In s1.heap ∧ wpAny (model X.prog X.w) X.A (call (.ref f) us) (EP X pins σ Q) X.xe s1)
  exact wpAny_Call_Name_kw (ld_glob I hg hm (PySem.W.callWith_K (h₀ := X.base) I.ok.mod.kin hk args he hpl) hdb)
end
end DV
set_option Elab.async false
set_option linter.all false
set_option maxRecDepth 100000
namespace DV
open PySem PySem.Spec PyProof.Rows L2
section
variable {P : Program} {w : World} {K : PySem.W.Frag} {mg mb : Str → Option Value} {CX : CXT} {fa a : Addr} {fd : FuncData} {x : Str} {sp : Sp} {s : Shared} {vs : List Value} {ns : List Int} {Φ : Around → Prop} {H : Hp}
/-- what may be tracked when the law is called: the script, if it is not one of the module's own objects -/
structure Start (K : PySem.W.Frag) (s : Shared) (a : Addr) (H : Hp) : Prop where
  only : Only H
  here : ∀ b, H b ≠ none → b = a ∧ K.lookup a = none
theorem Start.untracked (S : Start K s a H) (ha : s.heap.get? a = some { cls := .type "list", data := .seq vs.toArray }) {b : Addr} (h : (∃ o, K.lookup b = some o) ∨ ∃ o es ep, s.heap.get? b = some o ∧ o.data = .dict es ep) : H b = none := by
  by_cases z : H b = none
  · exact z
  · obtain ⟨rfl, hk⟩ := S.here b z
    rcases h with ⟨o, e⟩ | ⟨o, es, ep, e, d⟩
    · rw [hk] at e; exact nomatch e
    · rw [ha] at e; cases e; exact nomatch d
theorem Start.mod (S : Start K s a H) (ha : s.heap.get? a = some { cls := .type "list", data := .seq vs.toArray }) (KX : K.In s.heap) (hns : s.heap.Ns mainGlobals mg) (hb : s.heap.Ns builtinsNs mb) (hbb : ∀ x : Str, x ≠ "__name__" → mb x = bootBuiltins x) (hlim : s.heap.NoLimit) :
    Mod K mg (hidT s.heap H) := by
  have keep : ∀ {b : Addr} {m : Str → Option Value}, s.heap.Ns b m → (hidT s.heap H).Ns b m := by
    rintro b m ⟨o, es, ep, e, d, r⟩
    exact ⟨o, es, ep, hidT_get e (S.untracked ha (.inr ⟨o, es, ep, e, d⟩)), d, r⟩
  obtain ⟨mc, l1, l2⟩ := hlim
  exact ⟨fun b o e => hidT_get (KX b o e) (S.untracked ha (.inl ⟨o, e⟩)), keep hns, ⟨mb, keep hb, hbb⟩, mc, keep l1, l2⟩
theorem Start.run (S : Start K s a H) (ha : s.heap.get? a = some { cls := .type "list", data := .seq vs.toArray }) (KX : K.In s.heap) (hns : s.heap.Ns mainGlobals mg) (hb : s.heap.Ns builtinsNs mb) (hbb : ∀ x : Str, x ≠ "__name__" → mb x = bootBuiltins x) (hlim : s.heap.NoLimit) (hg : s.gens = #[]) (hok : HOk P w H s.heap)
    (hr : Φ callerA) (F : ∀ base : Heap, K.In base → base.Ns mainGlobals mg → FnW Φ P w K mg base CX fa fd [x] sp) (hbind : ∀ (s : Shared) (u : Value), BindsTo s fd ⟨[u], []⟩ [(x, u)]) (hsp : sp [.ref a] H (fun v _ => v = .bl true) fun _ _ _ => False)
    (hCX : ∀ H e s', CX [] H s (fun _ _ _ => False) e s' → False) : codeAny (model P w) callerA (.call (.ref fa) ⟨[.ref a], []⟩) (fun r s' => r = .ok (.ret (.bool true)) ∧ OldK s.heap s'.heap ∧ s'.os = s.os ∧ AllBare s'.gens) s := by
  have M := S.mod ha KX hns hb hbb hlim
  have e0 : Env0 P w K mg (hidT s.heap H) callerA [] s H := ⟨rfl, M, fun b o e => of_hidT e, Nat.le_of_eq (hidT_size _ _), trivial, fun b z => absurd z List.not_mem_nil, hok, .of_eq hg⟩
  refine codeAny_mono ((F _ M.kin M.glob).run callerA [] s H ⟨[.ref a], []⟩ [.ref a] [.ref a] _ _ hr e0 (hbind s (.ref a)) (.cons rfl .nil) hsp) fun r s' z => ?_
  rcases r with e | fl
  · exact (hCX H e s' z).elim
  · cases fl with
    | ret u =>
      obtain ⟨v, G, os, bare, un, ok', rv, q⟩ := z
      rw [show v = .bl true from q] at rv
      cases (show u = Value.bool true from rv)
      refine ⟨rfl, OldK.of_keep fun b o e => ?_, os, bare⟩
      rcases S.only b with z | ⟨ob, xs, z⟩
      · exact un.keep b o e z (fun m => absurd m List.not_mem_nil) (fun m => absurd m List.not_mem_nil)
      · have g1 := (hok b _ z).1
        have g2 := (ok' b _ (un.frzs b ob _ z)).1
        rw [e] at g1; cases g1; exact g2
    | _ => exact False.elim z
theorem law_callW (KX : K.In s.heap) (hns : s.heap.Ns mainGlobals mg) (hb : s.heap.Ns builtinsNs mb) (hbb : ∀ x : Str, x ≠ "__name__" → mb x = bootBuiltins x) (hlim : s.heap.NoLimit) (hg : s.gens = #[]) (ha : s.heap.get? a = some { cls := .type "list", data := .seq vs.toArray })
    (hi : IntsAre vs ns) (hl : ns.length ≤ sizeLine) (hr : Φ callerA) (F : ∀ base : Heap, K.In base → base.Ns mainGlobals mg → FnW Φ P w K mg base CX fa fd [x] sp) (hbind : ∀ (s : Shared) (u : Value), BindsTo s fd ⟨[u], []⟩ [(x, u)])
    (hsp : ∀ H : Hp, Only H → SqL K H a (ns.map V.int) → sp [.ref a] H (fun v _ => v = .bl true) fun _ _ _ => False) (hCX : ∀ H e s', CX [] H s (fun _ _ _ => False) e s' → False) :
    codeAny (model P w) callerA (.call (.ref fa) ⟨[.ref a], []⟩) (fun r s' => r = .ok (.ret (.bool true)) ∧ OldK s.heap s'.heap ∧ s'.os = s.os ∧ AllBare s'.gens) s := by
  have rv := vals_ints hi
  by_cases hk : K.lookup a = none
  · let G : Hp := fun b => if b = a then some (.frz { cls := .type "list", data := .seq vs.toArray } (.lst (ns.map V.int))) else none
    have on : Only G := fun b => by
      by_cases e : b = a
      · exact .inr ⟨_, _, if_pos e⟩
      · exact .inl (if_neg e)
    have S : Start K s a G := ⟨on, fun b z => by
      by_cases e : b = a
      · exact ⟨e, hk⟩
      · exact absurd (if_neg e) z⟩
    refine S.run ha KX hns hb hbb hlim hg (fun b u z => ?_) hr F hbind (hsp G on (.inl (.inr ⟨_, if_pos rfl⟩))) hCX
    by_cases e : b = a
    · subst e
      cases (if_pos rfl).symm.trans z
      exact ⟨ha, by rw [List.length_map]; exact hl, vs, _, rv, ha⟩
    · exact nomatch (if_neg e).symm.trans z
  · obtain ⟨o, ho⟩ := Option.ne_none_iff_exists'.mp hk
    have e := KX a o ho
    rw [ha] at e; cases e
    have on : Only fun _ => none := fun _ => .inl rfl
    exact Start.run (H := fun _ => none) ⟨on, fun b z => absurd rfl z⟩ ha KX hns hb hbb hlim hg (fun b u z => nomatch z) hr F hbind
      (hsp _ on (.inr ⟨_, vs.toArray, _, ho, rfl, rfl, rfl, by rw [List.size_toArray, ← rv.length, List.length_map]; exact hl, by simpa using rv⟩)) hCX
theorem walk_ofW {l : PySem.W.OpenLaw} {n : Nat} {q : Program} {loose : List Str} {XP : (Str → Option Value) → Heap → Prop} {YP : World → Heap → Prop} {d : DefRec} {K : Params → PySem.W.Frag} {CX : World → CXT} {sp : World → Sp} {x : Str} {Φ : Around → Prop}
    (hn : l.most = some n) (hn2 : n ≤ sizeLine) (hdf : d.params.defaults = []) (hr : Φ callerA) (hY : ∀ (w : World) (h : Heap), YP w h → (K w.params).In h)
    (F : ∀ (w : World) (mg : Str → Option Value) (fa : Addr) (h : Heap), (K w.params).In h → h.Ns mainGlobals mg → mg d.name = some (.ref fa) → ∃ fd : FuncData, (∀ (s : Shared) (u : Value), BindsTo s fd ⟨[u], []⟩ [(x, u)]) ∧
      ∀ base : Heap, (K w.params).In base → base.Ns mainGlobals mg → FnW Φ l.prog w (K w.params) mg base (CX w) fa fd [x] (sp w))
    (hsp : ∀ (w : World) (H : Hp) (a : Addr) (ns : List Int), ns.length ≤ n → Only H → SqL (K w.params) H a (ns.map V.int) → sp w [.ref a] H (fun v _ => v = .bl true) fun _ _ _ => False)
    (hCX : ∀ (w : World) (H : Hp) (s : Shared) (e : Value) (s' : Shared), CX w [] H s (fun _ _ _ => False) e s' → False) : PySem.W.WalkO q loose XP YP l.row.toRowW d [] (fun f vs => PySem.call f vs) :=
  Att.attach_call hn hdf fun w s0 s1 mg mb fa o pm cd doc a vs ns G Y ho hd hcd hm hobj hints hlen hg => by
    have KX := hY w _ Y
    obtain ⟨fd, hb, hF⟩ := F w mg fa _ KX G.T.g hm
    exact law_callW KX G.T.g G.T.b G.T.builtins G.T.nolimit hg hobj hints (Nat.le_trans hlen hn2) hr hF hb (fun H hO hS => hsp w H a ns hlen hO hS) fun H e s' => hCX w H s1 e s'
end
end DV
set_option Elab.async false
set_option linter.all false
set_option maxRecDepth 100000
namespace DV
open PySem PySem.Spec PyProof.Rows L2
abbrev rRepr (K : PySem.W.Frag) : List V → Hp → VK → Prop := fun xs H Q => ∃ v d, xs = [v] ∧ Dp K H v d ∧ d.showable = true ∧ d.hasDict = false ∧ d.depth ≤ 64 ∧ d.shown.length ≤ sizeLine ∧ Q (.str d.shown) H
theorem call_reprD {X : Cx} (hg : X.A.guards = some []) (hu : X.A.units + 128 < cLine) : CallR X (.builtin "repr") (rRepr X.K) := by
  rintro pins s σ H xs us Q I r ⟨v, d, rfl, hd, hs, hn, hdp, hz, q⟩
  obtain ⟨u, rfl, ru⟩ := vals1 r
  cases hd with
  | non => cases (show u = Value.none from ru); exact PySem.P.repr_of_none ⟨.str _, H, I.tok _, ⟨_, rfl⟩, by simpa only [PyData.shown] using q⟩
  | bl b => cases (show u = Value.bool b from ru); exact PySem.P.repr_of_bool ⟨.str _, H, I.tok _, ⟨_, rfl⟩, by simpa only [PyData.shown] using q⟩
  | int i =>
    obtain ⟨t, rfl⟩ := (show ∃ t, u = Value.int i t from ru)
    exact PySem.P.repr_of_int (by simpa [PyData.showable] using hs) ⟨.str _, H, I.tok _, ⟨_, rfl⟩, by simpa only [PyData.shown] using q⟩
  | str x =>
    obtain ⟨t, rfl⟩ := (show ∃ t, u = Value.str x t from ru)
    exact PySem.P.repr_of_str ⟨.str _, H, I.tok _, ⟨_, rfl⟩, by simpa only [PyData.shown] using q⟩ (by simpa only [PyData.shown] using hz)
  | @lst a ys ds h1 h2 =>
    cases (show u = Value.ref a from ru)
    obtain ⟨as, rd⟩ := Dp.reads I _ _ _ (.lst h1 h2) ru
    exact repr_of_reads' rd hs (PyData.noDict_hsm hn) hg (by omega) (fun _ _ e => e) (fun h' u tk hk => ⟨.str _, H, I.kept (t' := tk) hk, ⟨u, rfl⟩, q⟩) hz
  | @tup a ys ds h1 h2 =>
    cases (show u = Value.ref a from ru)
    obtain ⟨as, rd⟩ := Dp.reads I _ _ _ (.tup h1 h2) ru
    exact repr_of_reads' rd hs (PyData.noDict_hsm hn) hg (by omega) (fun _ _ e => e) (fun h' u tk hk => ⟨.str _, H, I.kept (t' := tk) hk, ⟨u, rfl⟩, q⟩) hz
def reprOk (e : PyData) : Bool := gd (e.showable = true ∧ e.hasDict = false ∧ e.depth ≤ 64 ∧ e.shown.length ≤ 1000000)
def cRepr : FF
  | [d], S => match pyOf 40 S d with
    | some e => if reprOk e then .ok (.str e.shown) S else .no
    | none => .no
  | _, _ => .no
theorem cRepr_ok {K : PySem.W.Frag} {mg : MG} : Cal K mg (rRepr K) cRepr := fun W φ S H σ xs ds Q s r p => by
  unfold cRepr at p
  split at p
  · split at p
    · rename_i e he
      split at p
      · rename_i hz
        cases r with
        | cons a b =>
          cases b
          obtain ⟨z1, z2, z3, z4⟩ := of_gd hz
          exact ⟨_, e, rfl, pyOf_ok s 40 _ _ _ a he, z1, z2, z3, by rw [sizeLine_eq]; omega, p φ H _ Ext.rfl' s (.str _)⟩
      · exact p.elim
    · exact p.elim
  · exact p.elim
end DV
set_option Elab.async false
set_option linter.all false
set_option maxRecDepth 100000
namespace DV
open PySem PySem.Spec PyProof.Rows L2 L2H
/-- a def that does what F says wherever Φ says so of what is around -/
def DefW (Φ : Around → Prop) (P : Program) (w : World) (K : PySem.W.Frag) (mg : Str → Option Value) (base : Heap) (x : Str) (ps : List Str) (n : Nat) (F : FF) : Prop :=
  ∃ a fd, FnW Φ P w K mg base (L2.CX P w) a fd ps (spF K ⟨mg, P, w⟩ n F) ∧ mg x = some (.ref a) ∧ PySem.W.keepIn K (.ref a) = true ∧ Binds K fd ps []
section
variable {P : Program} {w : World} {K : PySem.W.Frag} {mg : Str → Option Value} {base : Heap} {x : Str} {st : Stmt} {N ps : List Str} {k n : Nat} {b : SF} {F : FF} {Φ Ψ : Around → Prop}
theorem Def.weak (d : Def P w K mg base x ps k n F) (h : ∀ A, Φ A → Room k A) : DefW Φ P w K mg base x ps n F := let ⟨a, fd, G, r⟩ := d; ⟨a, fd, .of G h, r⟩
theorem DefW.mono (d : DefW Φ P w K mg base x ps n F) (h : ∀ A, Ψ A → Φ A) : DefW Ψ P w K mg base x ps n F := let ⟨a, fd, G, r⟩ := d; ⟨a, fd, G.mono h, r⟩
theorem body_walk {X : Cx} {vs : List V} {H : Hp} {Q : VK} {E : XK} (hK : X.K = K) {M : MG} (hm : X.M = M) (h : DSs X (fun cls d _ H => E cls d H) (defBody st) b) (z : spF K M ps.length (runK N.length ps.length b) vs H Q E) :
    ∃ t, PSs X (defBody st) t ∧ t { nx := fun _ H' => Q .non H', rt := Q } (L2.start N vs) H := by
  subst hK hm
  obtain ⟨hl, φ, ds, S0, rs, sr, p⟩ := z
  refine ⟨_, h, φ, _, S0, start_er rs hl, sr, ?_⟩
  unfold runK at p
  cases e : b (ds.map some ++ List.replicate (N.length - ps.length) none) S0 with
  | rt d S' => rw [e] at p; exact fun φ' H' v e' s' r' => p φ' H' v e' s' r'
  | nx ρ S' => rw [e] at p; exact fun φ' σ' H' e' s' r' => p φ' H' .non e' s' .non
  | ex c ρ S' =>
    rw [e] at p
    obtain ⟨C, e1, h⟩ := p
    exact ⟨C, e1, fun φ' σ' H' e' s' _ => h φ' H' e' s'⟩
  | bk _ _ => rw [e] at p; exact p.elim
  | ct _ _ => rw [e] at p; exact p.elim
  | no => rw [e] at p; exact p.elim
theorem fnG_ok {f : Addr} {fd : FuncData} {qual : Str} (F : Fun K x qual st f fd) (S : FnScope N ps (defScope st))
    (hb : ∀ (cdv : Value) (A : Around) (outer : List Env) (s : Shared) (H : Hp) (E : XK), RoomG k (A.deeper (envOfC qual (defScope st) s.heap.objs.size f cdv)) →
      DSs (cxOf (L2.CX P w) P w K mg base N qual (defScope st) f cdv A outer s H E) (fun cls d _ H => E cls d H) (defBody st) b) :
    FnW (RoomG (k + 1)) P w K mg base (L2.CX P w) f fd ps (spF K ⟨mg, P, w⟩ ps.length (runF N.length ps.length b)) := by
  obtain ⟨oc, od, kV, doc, pm, an, cdv, ct, osl, rfl, lk, hcd⟩ := F.ex
  refine FnW.imp (fnW_of (Ψ := RoomG k) ((cxFor_ok).weak fun A z => z.1.hd) lk hcd S (fun A z => z.1.depth) (fun A env z => z.deeper env) (fun vs H Q E h => h.1) fun A outer s H vs Q E hr z => body_walk rfl rfl (hb cdv A outer s H E hr) z) spF_drop
theorem fnQ_ok {f : Addr} {fd : FuncData} {qual : Str} (F : Fun K x qual st f fd) (S : FnScope N ps (defScope st))
    (hb : ∀ (cdv : Value) (A : Around) (outer : List Env) (s : Shared) (H : Hp) (E : XK), RoomH k (A.deeper (envOfC qual (defScope st) s.heap.objs.size f cdv)) →
      DSs (cxQ (L2.CX P w) P w K mg base N qual (defScope st) f cdv A outer s H E) (fun cls d _ H => E cls d H) (defBody st) b) :
    FnW (RoomH (k + 1)) P w K mg base (L2.CX P w) f fd ps (spF K ⟨mg, P, w⟩ ps.length (runF N.length ps.length b)) := by
  obtain ⟨oc, od, kV, doc, pm, an, cdv, ct, osl, rfl, lk, hcd⟩ := F.ex
  refine FnW.imp (fnW_of (Ψ := RoomH k) ((cxFor_q).weak fun A z => trivial) lk hcd S (fun A z => z.depth) (fun A env z => z.deeper env) (fun vs H Q E h => h.1) fun A outer s H vs Q E hr z => body_walk rfl rfl (hb cdv A outer s H E hr) z) spF_drop
theorem defQ_ok (A : FnAt K mg x st ps) (S : FnScope N ps (defScope st))
    (hb : ∀ (f : Addr) (cdv : Value) (A : Around) (outer : List Env) (s : Shared) (H : Hp) (E : XK), RoomH k (A.deeper (envOfC x (defScope st) s.heap.objs.size f cdv)) →
      DSs (cxQ (L2.CX P w) P w K mg base N x (defScope st) f cdv A outer s H E) (fun cls d _ H => E cls d H) (defBody st) b) : DefW (RoomH (k + 1)) P w K mg base x ps ps.length (runF N.length ps.length b) :=
  let ⟨a, fd, F, g, bi⟩ := A; ⟨a, fd, fnQ_ok F S (hb a), g, F.kp, bi⟩
end
theorem de_callW {X : Cx} {W : WX} {n : Nat} {ps : List Str} {F : FF} {x : Str} {p pos : Pos} {e : Expr} {es : List Expr} {ga : AF} {Φ : Around → Prop}
    (d : DefW Φ X.prog X.w X.K X.mg X.base x ps n F) (hr : Φ X.A) (tk : Takes X W) (hg : Gl X x) (ha : DA X W (e :: es) ga) (hl : aLen ga n) (hdb : (x == ("__debug__" : Str)) = false := by decide)
    (he : starEach (e :: es) X.env = (false, eval e X.env) :: starEach es X.env := by rfl) (hpl : (backTo pos (starEach es X.env)).any (·.1) = false := by rfl) :
    DE X W (.Call (.Name x p) (e :: es) [] pos) (eCall F ga) := by
  obtain ⟨a, fd, G, hm, hk, hb⟩ := d
  exact pe_wk (pe_callW G hr hg hm hk hb (fun σ => passAt tk σ) ha hdb he hpl) (tCall_of hl)
/-- the law's end, by a promise where no repr is under way -/
theorem law_ofW {Φ : Around → Prop} {P : Program} {w : World} {K : PySem.W.Frag} {mg : Str → Option Value} {base : Heap} {f : Addr} {fd : FuncData} {ps : List Str} {F : FF} (h : FnW Φ P w K mg base (L2.CX P w) f fd ps (spF K ⟨mg, P, w⟩ 1 F))
    (hF : ∀ ns : List Int, ns.length ≤ 63 → ∃ S, F [.ro ns] [] = .ok (.bl true) S) : FnW Φ P w K mg base (L2.CX P w) f fd ps (spLaw K) := h.imp fun vs H Q E ⟨a, ns, e, hs, ho, hl, q⟩ => by
  subst e
  obtain ⟨S, hS⟩ := hF ns hl
  refine ⟨rfl, [], [.ro ns], [], .cons (.ro ?_) .nil, ⟨rfl, List.nodup_nil, fun n o h => by simp at h⟩, ?_⟩
  · rcases hs with (h | ⟨o, h⟩) | h
    · rcases ho a with z | ⟨o, xs, z⟩
      · rw [h] at z; cases z
      · rw [h] at z; cases z
    · exact .inl ⟨o, by simp, h⟩
    · exact .inr (.inr h)
  · rw [hS]
    intro φ' H' v _ _ r
    cases r
    exact q H'
theorem roomG_caller {k : Nat} (h : Room k callerA) : RoomG k callerA := ⟨h, rfl⟩
end DV
set_option Elab.async false
set_option linter.all false
set_option maxRecDepth 100000
namespace DV
open PySem PySem.Spec PyProof.Rows L2
section
variable {P : Program} {w : World} {K : PySem.W.Frag} {mg : Str → Option Value} {base : Heap} {x : Str} {st : Stmt} {N ps : List Str} {k : Nat} {b : SF}
abbrev WExc (E : XK) : WX := fun cls d _ H => E cls d H
theorem def_okT (A : FnAt K mg x st ps) (S : FnScope N ps (defScope st))
    (hb : ∀ (f : Addr) (cdv : Value) (A : Around) (outer : List Env) (s : Shared) (H : Hp) (E : XK), Takes (cxOf (L2.CX P w) P w K mg base N x (defScope st) f cdv A outer s H E) (WExc E) →
      PassesOwn (model P w) (A.deeper (envOfC x (defScope st) s.heap.objs.size f cdv)) (envOfC x (defScope st) s.heap.objs.size f cdv) (cxOf (L2.CX P w) P w K mg base N x (defScope st) f cdv A outer s H E).xe →
      Room k (A.deeper (envOfC x (defScope st) s.heap.objs.size f cdv)) → DSs (cxOf (L2.CX P w) P w K mg base N x (defScope st) f cdv A outer s H E) (WExc E) (defBody st) b) : Def P w K mg base x ps (k + 1) ps.length (runF N.length ps.length b) :=
  def_ok A S fun f cdv A outer s H E hr => hb f cdv A outer s H E (takes_of rfl rfl rfl rfl) (passes_of rfl) hr
theorem def_okKT (A : FnAt K mg x st ps) (S : FnScope N ps (defScope st))
    (hb : ∀ (f : Addr) (cdv : Value) (A : Around) (outer : List Env) (s : Shared) (H : Hp) (E : XK), Takes (cxOf (L2.CX P w) P w K mg base N x (defScope st) f cdv A outer s H E) (WExc E) →
      PassesOwn (model P w) (A.deeper (envOfC x (defScope st) s.heap.objs.size f cdv)) (envOfC x (defScope st) s.heap.objs.size f cdv) (cxOf (L2.CX P w) P w K mg base N x (defScope st) f cdv A outer s H E).xe →
      Room k (A.deeper (envOfC x (defScope st) s.heap.objs.size f cdv)) → DSs (cxOf (L2.CX P w) P w K mg base N x (defScope st) f cdv A outer s H E) (WExc E) (defBody st) b) : Def P w K mg base x ps (k + 1) ps.length (runK N.length ps.length b) :=
  def_okK A S fun f cdv A outer s H E hr => hb f cdv A outer s H E (takes_of rfl rfl rfl rfl) (passes_of rfl) hr
end
theorem cx_none {P : Program} {w : World} {H : Hp} {s s' : Shared} {e : Value} (h : L2.CX P w [] H s (fun _ _ _ => False) e s') : False := by
  obtain ⟨_, _, _, _, _, _, _, _, _, _, _, _, z⟩ := h
  exact z
end DV
set_option Elab.async false
set_option linter.all false
set_option maxRecDepth 100000
namespace DV
open PySem PySem.Spec PyProof.Rows L2 L2H
/-- {}: by value -/
theorem de_dct0 {X : Cx} {W : WX} {pos : Pos} : DE X W (.Dict [] [] pos) (eC (.dct [])) := pe_wk pe_dnewK fun σ H Q ⟨φ, ρ, S, er, sr, p⟩ => fun q hq =>
  p φ _ _ (Ext.new hq) (sr.new hq) (.dct (ws := []) (sr.im hq) rfl .nil)
def eIdx (a b : EF) : EF := fun ρ S => (a ρ S).bind fun l S1 => match lstOf l S1 with
  | some _ => (b ρ S1).bind fun d S2 => (match lstOf l S2 with
    | some xs => (match d, allBl xs with
      | .bl k, some bs => if k ∈ bs then .ok (.int (bs.idxOf k : Nat)) S2 else .no
      | _, _ => .no)
    | none => .no)
  | none => .no
theorem idx_bools (k : Bool) : ∀ {bs : List Bool}, k ∈ bs → (bs.map V.bl)[bs.idxOf k]? = some (.bl k) ∧ ∀ (m : Nat) (z : V), m < bs.idxOf k → (bs.map V.bl)[m]? = some z → ∃ c, z = .bl c ∧ (c == k) = false
  | [], h => by simp at h
  | b :: bs, h => by
    by_cases hb : b = k
    · subst hb
      have e : (b :: bs).idxOf b = 0 := by simp
      rw [e]
      exact ⟨rfl, fun m z hm => by omega⟩
    · have hk : k ∈ bs := (List.mem_cons.mp h).resolve_left (Ne.symm hb)
      obtain ⟨h1, h2⟩ := idx_bools k hk
      have e : (b :: bs).idxOf k = bs.idxOf k + 1 := by simp [List.idxOf, List.findIdx_cons, beq_eq_false_iff_ne.mpr hb]
      rw [e]
      refine ⟨by simpa using h1, fun m z hm hz => ?_⟩
      cases m with
      | zero => simp at hz; subst hz; exact ⟨b, rfl, by simpa using hb⟩
      | succ m => exact h2 m z (by omega) (by simpa using hz)
theorem de_idx {X : Cx} {W : WX} {w : Expr} {fa fb : EF} (h : PE X w (tBM X.K "list" (rIndex X.K) (lE X.K X.M W fa) (tCons (lE X.K X.M W fb) tNil))) : DE X W w (eIdx fa fb) :=
  pe_wk h fun σ H Q ⟨φ, ρ, S, er, sr, p⟩ => (lf.bind er sr p).imp fun x H1 ⟨φ1, S1, d, e1, sr1, r1, p1⟩ => by
    split at p1
    · rename_i ys hy
      obtain ⟨l, us, rfl, g, rs⟩ := lstOf_ok sr1 r1 hy
      refine ⟨.inl ⟨rfl, _, .of g⟩, ?_⟩
      refine (lf.bind (er.mono e1) sr1 p1).imp fun y H2 ⟨φ2, S2, d2, e2, sr2, r2, p2⟩ => ?_
      split at p2
      · rename_i xs hx
        split at p2
        · rename_i k bs hb
          split at p2
          · rename_i hk
            obtain ⟨l2, us2, h2, g2, rs2⟩ := lstOf_ok sr2 (r1.mono e2) hx
            cases h2
            have := allBl_ok rs2 hb
            subst this
            cases r2
            obtain ⟨i1, i2⟩ := idx_bools k hk
            refine ⟨_, _, _, bs.idxOf k, .bl k, rfl, rfl, .of g2, rfl, by simp [flatV, List.all_map, Function.comp_def], i1, by simp [eqV], fun m z hm hz => ?_, p2 φ2 H2 _ Ext.rfl' sr2 (.int _)⟩
            obtain ⟨c, rfl, hc⟩ := i2 m z hm hz
            simpa [eqV] using hc
          · exact p2.elim
        · exact p2.elim
      · exact p2.elim
    · exact p1.elim
/-- the class that a clause names, and which exceptions it takes -/
structure HC (K : PySem.W.Frag) (mg : Str → Option Value) (x : Str) (sub : Str → Option Bool) : Prop where
  ex : ∃ C, mg x = some (.ref C) ∧ Catch K mg (.ref C) sub
theorem ds_tryT {X : Cx} {W : WX} {x n : Str} {i : Nat} {body suite : List Stmt} {b₀ : Stmt} {np pos pos' : Pos} {f g : SF} {sub : Str → Option Bool} (hc : HC X.K X.mg x sub) (hg : Gl X x) (hd : (x == ("__debug__" : Str)) = false) (hex : X.ex = []) (hs : X.stack = X.env :: X.outer) (hf : X.env.frame = some X.env.locals)
    (hN : X.N.Nodup) (hi : X.N[i]? = some n) (hln : X.env.kindOf n = some .local) (tk : Takes X W)
    (hb : ∀ (W' : WX) (pn : List (Addr × Obj)) (xe : Value → Shared → Prop), Takes (X.tr pn xe) W' → PassesOwn (model X.prog X.w) X.A X.env xe → DSs (X.tr pn xe) W' body f)
    (hsu : ∀ (a : Addr) (pn : List (Addr × Obj)), DSs (X.suite a pn) wF (b₀ :: suite) g) :
    DS X W (.Try body [.ExceptHandler (some (.Name x np)) (some n) (b₀ :: suite) pos'] [] [] pos) (sTry sub i f g) := by
  obtain ⟨C, gC, hsub⟩ := hc.ex
  exact ds_try hex hs hf hN hi hln ⟨hg, hd, .inl gC⟩ tk hsub hb hsu
/-- a class as isinstance has it -/
structure IT (K : PySem.W.Frag) (mg : Str → Option Value) (x : Str) (sub : Str → Option Bool) : Prop where
  ex : ∃ C, mg x = some (.ref C) ∧ IsTab K mg (.ref C) sub
abbrev rIsX (K : PySem.W.Frag) : List V → Hp → VK → Prop := fun xs H Q => ∃ (a D : Addr) (oe : Obj) (c : V) (cv : Value) (b : Bool), xs = [.ref a, c] ∧ H a = some (ExT oe a) ∧ IsX D oe ∧ ExcC K D ∧ ClsV c cv ∧ PySem.W.kitOne K (.ref D) cv = some b ∧ Q (.bl b) H
theorem de_isxT {X : Cx} {W : WX} {w : Expr} {fa : EF} {x : Str} {sub : Str → Option Bool} (ht : IT X.K X.mg x sub) (h : ∀ C, X.mg x = some (.ref C) → PE X w (tCB (rIsX X.K) (tCons (lE X.K X.M W fa) (tCons (tC (.ref C)) tNil)))) : DE X W w (eIsX fa sub) := by
  obtain ⟨C, gC, z⟩ := ht.ex
  exact de_isx (c := .ref C) (.own C) z (h C gC)
theorem de_isxB {X : Cx} {W : WX} {w : Expr} {fa : EF} {x : String} {sub : Str → Option Bool} (ht : IsTab X.K X.mg (.type x) sub) (h : PE X w (tCB (rIsX X.K) (tCons (lE X.K X.M W fa) (tCons (tC (.ty x)) tNil)))) : DE X W w (eIsX fa sub) :=
  de_isx (c := .ty x) (.ty x) ht h
end DV
set_option Elab.async false
set_option linter.all false
set_option maxRecDepth 100000
namespace DV
open PySem PySem.Spec PyProof.Rows L2 L2H
def tabX (l : List (Str × Bool)) : Str → Option Bool := fun c => l.lookup c
section
variable {K : PySem.W.Frag} {mg : Str → Option Value} {cv : Value} {c : Str} {C : Addr} {b : Bool} {l : List (Str × Bool)}
theorem catch_nil : Catch K mg cv (tabX []) := fun c b h => by cases h
theorem catch_cons (m : mg c = some (.ref C)) (e : PySem.W.exmOne K (.ref C) cv = some b) (h : Catch K mg cv (tabX l)) : Catch K mg cv (tabX ((c, b) :: l)) := fun x b' z => by
  unfold tabX at z
  rw [List.lookup_cons] at z
  split at z
  · rename_i hx
    have := eq_of_beq hx
    subst this
    cases z
    exact ⟨C, m, e⟩
  · exact h x b' z
theorem istab_nil : IsTab K mg cv (tabX []) := fun c b h => by cases h
theorem istab_cons (m : mg c = some (.ref C)) (x : ExcC K C) (e : PySem.W.kitOne K (.ref C) cv = some b) (h : IsTab K mg cv (tabX l)) : IsTab K mg cv (tabX ((c, b) :: l)) := fun y b' z => by
  unfold tabX at z
  rw [List.lookup_cons] at z
  split at z
  · rename_i hx
    have := eq_of_beq hx
    subst this
    cases z
    exact ⟨C, m, x, e⟩
  · exact h y b' z
end
section
variable {P : Program} {w : World} {K : PySem.W.Frag} {mg : Str → Option Value} {base : Heap} {x : Str} {st : Stmt} {N ps : List Str} {k : Nat} {b : SF}
theorem defQ_okT (A : FnAt K mg x st ps) (S : FnScope N ps (defScope st))
    (hb : ∀ (f : Addr) (cdv : Value) (A : Around) (outer : List Env) (s : Shared) (H : Hp) (E : XK), Takes (cxQ (L2.CX P w) P w K mg base N x (defScope st) f cdv A outer s H E) (WExc E) →
      RoomH k (A.deeper (envOfC x (defScope st) s.heap.objs.size f cdv)) → DSs (cxQ (L2.CX P w) P w K mg base N x (defScope st) f cdv A outer s H E) (WExc E) (defBody st) b) :
    DefW (RoomH (k + 1)) P w K mg base x ps ps.length (runF N.length ps.length b) :=
  defQ_ok A S fun f cdv A outer s H E hr => hb f cdv A outer s H E (takes_of rfl rfl rfl rfl) hr
theorem fnG_okG {f : Addr} {fd : FuncData} {qual : Str} (F : Fun K x qual st f fd) (S : FnScope N ps (defScope st))
    (hb : ∀ (cdv : Value) (A : Around) (outer : List Env) (s : Shared) (H : Hp) (E : XK), Takes (cxOf (L2.CX P w) P w K mg base N qual (defScope st) f cdv A outer s H E) (WExc E) →
      PassesOwn (model P w) (A.deeper (envOfC qual (defScope st) s.heap.objs.size f cdv)) (envOfC qual (defScope st) s.heap.objs.size f cdv) (cxOf (L2.CX P w) P w K mg base N qual (defScope st) f cdv A outer s H E).xe →
      RoomG k (A.deeper (envOfC qual (defScope st) s.heap.objs.size f cdv)) → Room k (A.deeper (envOfC qual (defScope st) s.heap.objs.size f cdv)) → DSs (cxOf (L2.CX P w) P w K mg base N qual (defScope st) f cdv A outer s H E) (WExc E) (defBody st) b) :
    FnW (RoomG (k + 1)) P w K mg base (L2.CX P w) f fd ps (spF K ⟨mg, P, w⟩ ps.length (runF N.length ps.length b)) :=
  fnG_ok F S fun cdv A outer s H E hr => hb cdv A outer s H E (takes_of rfl rfl rfl rfl) (passes_of rfl) hr hr.1
end
theorem room_un {k : Nat} {A : Around} (r : Room k A) : A.units + 128 < cLine := by have := r.un; omega
/-- str(int) -/
def cStr : FF
  | [.int i], S => if gd (i.natAbs.log2 < 1920) then .ok (.str (toString i)) S else .no
  | _, _ => .no
theorem cStr_ok {K : PySem.W.Frag} {mg : MG} : Cal K mg (fun xs H Q => ∃ i, xs = [.int i] ∧ i.natAbs.log2 < 1920 ∧ Q (.str (toString i)) H) cStr := fun W φ S H σ xs ds Q s r p => by
  unfold cStr at p
  split at p
  · split at p
    · rename_i hz
      cases r with
      | cons a b => cases b; cases a; exact ⟨_, rfl, of_gd hz, p φ H _ Ext.rfl' s (.str _)⟩
    · exact p.elim
  · exact p.elim
end DV
theorem L2H.RoomH.units {k : Nat} {A : PySem.Around} (r : L2H.RoomH k A) : A.units + 64 < PySem.cLine := by have := r.un; omega
set_option Elab.async false
set_option linter.all false
namespace DV
open PySem PySem.Spec PyProof.Rows L2
theorem kitOne_own {K : PySem.W.Frag} {D C : Addr} {b : Bool} (hc : PySem.W.hasDictIn K C = true) (ht : PySem.W.typeIn K (.ref C) = some (.type "type")) (self : PySem.W.subIn K (.ref D) (.ref D) = some true) (hs : PySem.W.subIn K (.ref D) (.ref C) = some b) : PySem.W.kitOne K (.ref D) (.ref C) = some b := by
  have hcl : (PySem.W.clsIn K C).isSome = true := by
    unfold PySem.W.hasDictIn at hc
    cases h : PySem.W.clsIn K C with
    | none => rw [h] at hc; simp at hc
    | some cd => rfl
  unfold PySem.W.kitOne
  by_cases e : (Value.ref D == Value.ref C) = true
  · rw [if_pos e]
    have : D = C := by simpa using e
    subst this
    rw [self] at hs
    exact hs
  · rw [if_neg e]
    show (if ((PySem.W.clsIn K C).isSome && PySem.W.typeIn K (.ref C) == some (.type "type")) = true then PySem.W.subIn K (.ref D) (.ref C) else none) = some b
    rw [if_pos (by rw [hcl, ht]; rfl)]
    exact hs
theorem kitOne_ty {K : PySem.W.Frag} {D : Addr} {T : String} {b : Bool} (hm : PySem.W.kitMeta T = true) (hs : PySem.W.subIn K (.ref D) (.type T) = some b) : PySem.W.kitOne K (.ref D) (.type T) = some b := by
  unfold PySem.W.kitOne
  rw [if_neg (by simp)]
  show (if PySem.W.kitMeta T = true then PySem.W.subIn K (.ref D) (.type T) else none) = some b
  rw [if_pos hm]
  exact hs
theorem exm_own {K : PySem.W.Frag} {C D : Addr} {b : Bool} (h1 : PySem.W.subIn K (.ref C) (.type "BaseException") = some true) (hc : PySem.W.hasDictIn K C = true) (ht : PySem.W.typeIn K (.ref C) = some (.type "type")) (hs : PySem.W.subIn K (.ref D) (.ref C) = some b) : PySem.W.exmOne K (.ref D) (.ref C) = some b :=
  PySem.W.exm_ref h1 hc ht hs
end DV
set_option Elab.async false
set_option linter.all false
set_option maxRecDepth 100000
namespace DV
open PySem PySem.Spec PyProof.Rows L2
def keyD : D → Option Key
  | .int i => some (.inl i)
  | .str s => some (.inr s)
  | _ => none
def keyTs : List D → Option (List Key)
  | [] => some []
  | d :: ds => match keyD d, keyTs ds with
    | some k, some ks => some (k :: ks)
    | _, _ => none
def keyT : D → Option (List Key)
  | .tup xs => keyTs xs
  | _ => none
section
end
def valK {κ β : Type} [DecidableEq κ] (kvs : List (κ × β)) (k : κ) : Option β := (kvs.find? fun kv => decide (kv.1 = k)).map (·.2)
def putKD {κ β : Type} [DecidableEq κ] (kvs : List (κ × β)) (k : κ) (v : β) : List (κ × β) :=
  if (kvs.any fun kv => decide (kv.1 = k)) = true then kvs.map (fun kv => if kv.1 = k then (kv.1, v) else kv) else kvs ++ [(k, v)]
theorem valK_pos {κ β : Type} [DecidableEq κ] {p : κ × β} {r : List (κ × β)} {k : κ} (e : p.1 = k) : valK (p :: r) k = some p.2 := by simp [valK, List.find?_cons, e]
theorem valK_neg {κ β : Type} [DecidableEq κ] {p : κ × β} {r : List (κ × β)} {k : κ} (e : ¬ p.1 = k) : valK (p :: r) k = valK r k := by simp [valK, List.find?_cons, e]
section
end
/-- set() -/
def eSet0S : EF := fun _ S => .ok (.ob S.length) (S ++ [.set []])
end DV
namespace DV
open PySem PySem.Spec PyProof.Rows L2
section
end
end DV
set_option Elab.async false
set_option linter.all false
set_option maxRecDepth 100000
namespace DV
open PySem PySem.Spec PyProof.Rows L2
section
end
section
end
end DV
set_option Elab.async false
set_option linter.all false
set_option maxRecDepth 100000
namespace DV
open PySem PySem.Spec PyProof.Rows L2
def dicOf : D → Sto → Option (List (Key × D))
  | .dct kvs, _ => some kvs
  | .ob n, S => match S[n]? with
    | some (.dic kvs) => some kvs
    | _ => none
  | _, _ => none
def dttOf : D → Sto → Option (List (List Key × D))
  | .dtt kvs, _ => some kvs
  | .ob n, S => match S[n]? with
    | some (.dtt kvs) => some kvs
    | _ => none
  | _, _ => none
/-- what the dict d holds at k: none where it is no dict or no key -/
def getX (d k : D) (S : Sto) : Option (Option D) := match dicOf d S, dttOf d S with
  | some kvs, _ => (keyD k).map (valK kvs)
  | none, some kvs => (keyT k).map (valK kvs)
  | none, none => none
section
end
/-- d[k], there -/
def eDGet (a b : EF) : EF := fun ρ S => (a ρ S).bind fun x S1 => (b ρ S1).bind fun y S2 => match getX x y S2 with
  | some (some d) => .ok d S2
  | _ => .no
/-- the store behind d[k] = v -/
def putX (d k v : D) (S : Sto) : Option Sto := match d with
  | .ob n => match S[n]? with
    | some (.dic kvs) => match keyD k with
      | some kk => if gd (kvs.length < 1000000) then some (S.set n (.dic (putKD kvs kk v))) else none
      | none => none
    | some (.dtt kvs) => match keyT k with
      | some kk => if gd (kvs.length < 1000000) then some (S.set n (.dtt (putKD kvs kk v))) else none
      | none => none
    | _ => none
  | _ => none
def sDPutD (o i a : EF) : SF := fun ρ S => (a ρ S).sb ρ fun v S1 => (o ρ S1).sb ρ fun d S2 => (i ρ S2).sb ρ fun k S3 => match putX d k v S3 with
  | some T => .nx ρ T
  | none => .no
section
end
/-- {}, to be changed: its keys ints and texts, or tuples of these -/
def eDctS : EF := fun _ S => .ok (.ob S.length) (S ++ [.dic []])
def eDttS : EF := fun _ S => .ok (.ob S.length) (S ++ [.dtt []])
end DV
set_option Elab.async false
set_option linter.all false
set_option maxRecDepth 100000
namespace DV
open PySem PySem.Spec PyProof.Rows L2
section
end
section
end
end DV
set_option Elab.async false
set_option linter.all false
set_option maxRecDepth 100000
namespace DV
open PySem PySem.Spec PyProof.Rows L2
section
end
end DV
set_option Elab.async false
set_option linter.all false
set_option maxRecDepth 100000
namespace DV
open PySem PySem.Spec PyProof.Rows L2
def eS0 (g : Str → Bool) (a : EF) : EF := fun ρ S => (a ρ S).bind fun d S1 => match d with
  | .str s => .ok (.bl (g s)) S1
  | _ => .no
/-- divmod of ints -/
def cDivmod : FF
  | [.int i, .int j], S => if divOk i j && gd (0 < j) then .ok (.tup [.int (i / j), .int (i % j)]) S else .no
  | _, _ => .no
end DV
namespace DV
open PySem PySem.Spec PyProof.Rows L2
end DV
set_option Elab.async false
set_option linter.all false
set_option maxRecDepth 100000
namespace DV
open PySem PySem.Spec PyProof.Rows L2
section
end
section
end
end DV
namespace DV
open PySem
end DV
set_option Elab.async false
set_option linter.all false
set_option maxRecDepth 100000
namespace DV
open PySem PySem.Spec PyProof.Rows L2 PpSet
section
end
section
end
end DV
set_option Elab.async false
set_option linter.all false
set_option maxRecDepth 100000
namespace DV
open PySem PySem.Spec PyProof.Rows L2
section
end
section
end
end DV
set_option Elab.async false
set_option linter.all false
set_option maxRecDepth 100000
namespace DV
open PySem PySem.Spec PyProof.Rows L2
open Sem (wp)
section
end
section
end
end DV
set_option Elab.async false
set_option linter.all false
set_option maxRecDepth 100000
namespace Fx
open PySem L2 DV
def c_is_whole_0 : SF :=
  (sRet (eAnd (eIs (eVar 0) "int") (eAnd (eOp oIsnt (eVar 0) (eC (.bl true))) (eOp oIsnt (eVar 0) (eC (.bl false))))))
def b_is_whole : SF :=
  c_is_whole_0
def F_is_whole : FF := runF 1 1 b_is_whole
def c_in_lowest_terms_0 : SF :=
  (sAsg (.nm 2) (eB cGcd (aCons (eVar 0) (aCons (eVar 1) aNil))))
def c_in_lowest_terms_1 : SF :=
  (sIf (tTru (eOp oLt (eVar 1) (eC (.int 0))))
    (sAsg (.nm 2) (eNeg (eVar 2)))
    sNil)
def c_in_lowest_terms_2 : SF :=
  (sRet (eTup (aCons (eOp oDiv (eVar 0) (eVar 2)) (aCons (eOp oDiv (eVar 1) (eVar 2)) aNil))))
def b_in_lowest_terms : SF :=
  (sSeq c_in_lowest_terms_0
    (sSeq c_in_lowest_terms_1
    c_in_lowest_terms_2))
def F_in_lowest_terms : FF := runF 3 2 b_in_lowest_terms
def c_l_pen_0 : SF :=
  (sRet (eLstS (aCons (eB cList (aCons (eRo (eVar 0) pNo (pAt (eC (.int 63)))) aNil)) (aCons (eC (.int 0)) (aCons (eC (.int 0)) aNil)))))
def b_l_pen : SF :=
  c_l_pen_0
def F_l_pen : FF := runK 1 1 b_l_pen
def c_l_draw_0 : SF :=
  (sIf (tTru (eOp oGt (eOp oIx (eVar 0) (eC (.int 2))) (eC (.int 0))))
    (sSeq (sAsg (.nm 2) (eOp oMod (eOp oIx (eVar 0) (eC (.int 2))) (eVar 1)))
    (sSeq (sSub (eVar 0) (eC (.int 2)) (eOp oDiv (eOp oIx (eVar 0) (eC (.int 2))) (eVar 1)))
    (sRet (eVar 2))))
    sNil)
def c_l_draw_1 : SF :=
  (sAsg (.nm 3) (eOp oIx (eVar 0) (eC (.int 1))))
def c_l_draw_2 : SF :=
  (sSub (eVar 0) (eC (.int 1)) (eOp oAdd (eVar 3) (eC (.int 1))))
def c_l_draw_3 : SF :=
  (sAsg (.nm 4) (eC (.int 7)))
def c_l_draw_4 : SF :=
  (sIf (tTru (eOp oGt (eB cLen (aCons (eOp oIx (eVar 0) (eC (.int 0))) aNil)) (eC (.int 0))))
    (sAsg (.nm 4) (eOp oIx (eOp oIx (eVar 0) (eC (.int 0))) (eOp oMod (eVar 3) (eB cLen (aCons (eOp oIx (eVar 0) (eC (.int 0))) aNil)))))
    sNil)
def c_l_draw_5 : SF :=
  (sIf (bAnd (tTru (eOp oLt (eVar 3) (eB cLen (aCons (eOp oIx (eVar 0) (eC (.int 0))) aNil)))) (tTru (eOp oGe (eVar 4) (eOp oPow (eC (.int 10)) (eC (.int 18))))))
    (sSeq (sSub (eVar 0) (eC (.int 2)) (eOp oDiv (eVar 4) (eVar 1)))
    (sRet (eOp oMod (eVar 4) (eVar 1))))
    sNil)
def c_l_draw_6 : SF :=
  (sAsg (.nm 5) (eOp oMod (eOp oMul (eOp oAdd (eOp oMod (eVar 4) (eC (.int 2147483629))) (eC (.int 11))) (eOp oAdd (eOp oAdd (eOp oMul (eVar 3) (eVar 3)) (eOp oMul (eC (.int 5)) (eVar 3))) (eC (.int 3)))) (eC (.int 2147483647))))
def c_l_draw_7 : SF :=
  (sAsg (.nm 5) (eOp oMod (eOp oMul (eOp oMod (eOp oAdd (eOp oPow (eVar 5) (eC (.int 3))) (eOp oMul (eC (.int 69621)) (eVar 3))) (eC (.int 2147483587))) (eC (.int 40692))) (eC (.int 2147483399))))
def c_l_draw_8 : SF :=
  (sIf (tTru (eOp oGt (eVar 1) (eOp oPow (eC (.int 10)) (eC (.int 6)))))
    (sAsg (.nm 5) (eOp oAdd (eOp oMul (eVar 5) (eC (.int 2147483629))) (eOp oMod (eOp oMul (eOp oMod (eVar 5) (eC (.int 1000003))) (eC (.int 48271))) (eC (.int 2147483587)))))
    sNil)
def c_l_draw_9 : SF :=
  (sRet (eOp oMod (eOp oDiv (eVar 5) (eC (.int 64))) (eVar 1)))
def b_l_draw : SF :=
  (sSeq c_l_draw_0
    (sSeq c_l_draw_1
    (sSeq c_l_draw_2
    (sSeq c_l_draw_3
    (sSeq c_l_draw_4
    (sSeq c_l_draw_5
    (sSeq c_l_draw_6
    (sSeq c_l_draw_7
    (sSeq c_l_draw_8
    c_l_draw_9)))))))))
def F_l_draw : FF := runF 6 2 b_l_draw
def fu_l_low_0 : Lc → Sto → Nat := fun (ρ : Lc) _ => match ρ[3]? with | some (some (D.int i)) => i.natAbs | _ => 0
def c_l_low_0 : SF :=
  (sPar 2 3 (aCons (eB cAbs (aCons (eVar 0) aNil)) (aCons (eB cAbs (aCons (eVar 1) aNil)) aNil)))
def c_l_low_1_0 : SF :=
  (sPar 2 3 (aCons (eVar 3) (aCons (eOp oMod (eVar 2) (eVar 3)) aNil)))
def c_l_low_1 : SF :=
  (sWh fu_l_low_0 (tTru (eOp oGt (eVar 3) (eC (.int 0))))
    c_l_low_1_0)
def c_l_low_2 : SF :=
  (sIf (tTru (eOp oLt (eVar 1) (eC (.int 0))))
    (sPar 0 1 (aCons (eOp oSub (eC (.int 0)) (eVar 0)) (aCons (eOp oSub (eC (.int 0)) (eVar 1)) aNil)))
    sNil)
def c_l_low_3 : SF :=
  (sRet (eTup (aCons (eOp oDiv (eVar 0) (eVar 2)) (aCons (eOp oDiv (eVar 1) (eVar 2)) aNil))))
def b_l_low : SF :=
  (sSeq c_l_low_0
    (sSeq c_l_low_1
    (sSeq c_l_low_2
    c_l_low_3)))
def F_l_low : FF := runF 4 2 b_l_low
def c_l_same_0 (F_l_same : FF) : SF :=
  (sIf (tTru (eIs2 (eVar 1) "tuple" "list"))
    (sSeq (sIf (bOr (bNot (tTru (eIs2 (eVar 0) "tuple" "list"))) (tTru (eOp oNe (eIs (eVar 0) "list") (eIs (eVar 1) "list"))))
    (sRet (eC (.bl false)))
    sNil)
    (sSeq (sIf (tTru (eOp oNe (eB cLen (aCons (eVar 0) aNil)) (eB cLen (aCons (eVar 1) aNil))))
    (sRet (eC (.bl false)))
    sNil)
    (sRet (eB cAll (aCons (eLc (iZip (aCons (eVar 0) (aCons (eVar 1) aNil))) (.tp [(.nm 2), (.nm 3)]) cYes (eCall F_l_same (aCons (eVar 2) (aCons (eVar 3) aNil))) [2, 3]) aNil)))))
    sNil)
def c_l_same_1 (F_l_same : FF) : SF :=
  (sIf (bOr (tTru (eOp oIs (eVar 1) (eC .non))) (tTru (eOp oIs (eVar 0) (eC .non))))
    (sRet (eAnd (eOp oIs (eVar 0) (eC .non)) (eOp oIs (eVar 1) (eC .non))))
    sNil)
def c_l_same_2 (F_l_same : FF) : SF :=
  (sIf (bOr (tTru (eOp oNe (eIs (eVar 0) "bool") (eIs (eVar 1) "bool"))) (tTru (eOp oNe (eIs (eVar 0) "str") (eIs (eVar 1) "str"))))
    (sRet (eC (.bl false)))
    sNil)
def c_l_same_3 (F_l_same : FF) : SF :=
  (sIf (tTru (eOp oNe (eIs (eVar 0) "int") (eIs (eVar 1) "int")))
    (sRet (eC (.bl false)))
    sNil)
def c_l_same_4 (F_l_same : FF) : SF :=
  (sRet (eOp oEq (eVar 0) (eVar 1)))
def b_l_same (F_l_same : FF) : SF :=
  (sSeq (c_l_same_0 F_l_same)
    (sSeq (c_l_same_1 F_l_same)
    (sSeq (c_l_same_2 F_l_same)
    (sSeq (c_l_same_3 F_l_same)
    (c_l_same_4 F_l_same)))))
def R_l_same : Nat → FF
  | 0 => fun _ _ => .no
  | d + 1 => runF 4 2 (b_l_same (R_l_same d))
abbrev F_l_same : FF := R_l_same 12
def c_l_add_0 : SF :=
  (sRet (eCall F_l_low (aCons (eOp oAdd (eOp oMul (eOp oIx (eVar 0) (eC (.int 0))) (eOp oIx (eVar 1) (eC (.int 1)))) (eOp oMul (eOp oIx (eVar 1) (eC (.int 0))) (eOp oIx (eVar 0) (eC (.int 1))))) (aCons (eOp oMul (eOp oIx (eVar 0) (eC (.int 1))) (eOp oIx (eVar 1) (eC (.int 1)))) aNil))))
def b_l_add : SF :=
  c_l_add_0
def F_l_add : FF := runF 2 2 b_l_add
def c_l_sub_0 : SF :=
  (sRet (eCall F_l_low (aCons (eOp oSub (eOp oMul (eOp oIx (eVar 0) (eC (.int 0))) (eOp oIx (eVar 1) (eC (.int 1)))) (eOp oMul (eOp oIx (eVar 1) (eC (.int 0))) (eOp oIx (eVar 0) (eC (.int 1))))) (aCons (eOp oMul (eOp oIx (eVar 0) (eC (.int 1))) (eOp oIx (eVar 1) (eC (.int 1)))) aNil))))
def b_l_sub : SF :=
  c_l_sub_0
def F_l_sub : FF := runF 2 2 b_l_sub
def c_is_fraction_0 : SF :=
  (sIf (bOr (bNot (tTru (eIs (eVar 0) "tuple"))) (tTru (eOp oNe (eB cLen (aCons (eVar 0) aNil)) (eC (.int 2)))))
    (sRet (eC (.bl false)))
    sNil)
def c_is_fraction_1 : SF :=
  (sAsg (.tp [(.nm 1), (.nm 2)]) (eVar 0))
def c_is_fraction_2 : SF :=
  (sIf (bOr (bNot (tTru (eIs (eVar 1) "int"))) (bNot (tTru (eIs (eVar 2) "int"))))
    (sRet (eC (.bl false)))
    sNil)
def c_is_fraction_3 : SF :=
  (sIf (bOr (tTru (eOp oIs (eVar 1) (eC (.bl true)))) (bOr (tTru (eOp oIs (eVar 1) (eC (.bl false)))) (tTru (eOp oIs (eVar 2) (eC (.bl true))))))
    (sRet (eC (.bl false)))
    sNil)
def c_is_fraction_4 : SF :=
  (sRet (eOr (eOp oEq (eVar 2) (eC (.int 1))) (eAnd (eOp oGt (eVar 2) (eC (.int 1))) (eOp oEq (eB cGcd (aCons (eVar 1) (aCons (eVar 2) aNil))) (eC (.int 1))))))
def b_is_fraction : SF :=
  (sSeq c_is_fraction_0
    (sSeq c_is_fraction_1
    (sSeq c_is_fraction_2
    (sSeq c_is_fraction_3
    c_is_fraction_4))))
def F_is_fraction : FF := runF 3 1 b_is_fraction
def c_minus_0 : SF :=
  (sAsg (.nm 2) (eOp oSub (eOp oMul (eOp oIx (eVar 0) (eC (.int 0))) (eOp oIx (eVar 1) (eC (.int 1)))) (eOp oMul (eOp oIx (eVar 1) (eC (.int 0))) (eOp oIx (eVar 0) (eC (.int 1))))))
def c_minus_1 : SF :=
  (sAsg (.nm 3) (eOp oMul (eOp oIx (eVar 0) (eC (.int 1))) (eOp oIx (eVar 1) (eC (.int 1)))))
def c_minus_2 : SF :=
  (sAsg (.nm 4) (eB cGcd (aCons (eVar 2) (aCons (eVar 3) aNil))))
def c_minus_3 : SF :=
  (sRet (eTup (aCons (eOp oDiv (eVar 2) (eVar 4)) (aCons (eOp oDiv (eVar 3) (eVar 4)) aNil))))
def b_minus : SF :=
  (sSeq c_minus_0
    (sSeq c_minus_1
    (sSeq c_minus_2
    c_minus_3)))
def F_minus : FF := runF 5 2 b_minus
def c_over_0 : SF :=
  (sIf (tTru (eOp oEq (eVar 1) (eC (.tup [(.int 0), (.int 1)]))))
    (sRaise "NoFraction")
    sNil)
def c_over_1 : SF :=
  (sRet (eCall F_in_lowest_terms (aCons (eOp oMul (eOp oIx (eVar 0) (eC (.int 0))) (eOp oIx (eVar 1) (eC (.int 1)))) (aCons (eOp oMul (eOp oIx (eVar 0) (eC (.int 1))) (eOp oIx (eVar 1) (eC (.int 0)))) aNil))))
def b_over : SF :=
  (sSeq c_over_0
    c_over_1)
def F_over : FF := runF 2 2 b_over
def c_is_whole_within_0 : SF :=
  (sRet (eAnd (eIs (eVar 0) "int") (eAnd (eOp oIsnt (eVar 0) (eC (.bl true))) (eAnd (eOp oIsnt (eVar 0) (eC (.bl false))) (eChain oLe oLe (eVar 1) (eVar 0) (eVar 2))))))
def b_is_whole_within : SF :=
  c_is_whole_within_0
def F_is_whole_within : FF := runF 3 3 b_is_whole_within
def c_is_tuple_of_0 : SF :=
  (sRet (eAnd (eIs (eVar 0) "tuple") (eOp oEq (eB cLen (aCons (eVar 0) aNil)) (eVar 1))))
def b_is_tuple_of : SF :=
  c_is_tuple_of_0
def F_is_tuple_of : FF := runF 2 2 b_is_tuple_of
def c_line_of_0 : SF :=
  (sAsg (.tp [(.nm 1), (.tp [(.nm 2), (.nm 3)]), (.tp [(.nm 4), (.nm 5)])]) (eVar 0))
def c_line_of_1 : SF :=
  (sAsg (.nm 6) (eOp oMul (eOp oMul (eOp oMul (eC (.int 2)) (eVar 1)) (eVar 2)) (eVar 5)))
def c_line_of_2 : SF :=
  (sAsg (.nm 7) (eOp oSub (eOp oMul (eVar 4) (eVar 3)) (eOp oMul (eVar 2) (eVar 5))))
def c_line_of_3 : SF :=
  (sRet (eTup (aCons (eVar 6) (aCons (eVar 7) (aCons (eOp oMul (eOp oMul (eOp oMul (eC (.int 2)) (eVar 1)) (eVar 3)) (eVar 5)) aNil)))))
def b_line_of : SF :=
  (sSeq c_line_of_0
    (sSeq c_line_of_1
    (sSeq c_line_of_2
    c_line_of_3)))
def F_line_of : FF := runF 8 1 b_line_of
def c_is_above_nought_0 : SF :=
  (sRet (eAnd (eCall F_is_fraction (aCons (eVar 0) aNil)) (eOp oGt (eOp oIx (eVar 0) (eC (.int 0))) (eC (.int 0)))))
def b_is_above_nought : SF :=
  c_is_above_nought_0
def F_is_above_nought : FF := runF 1 1 b_is_above_nought
def c_length_within_0 : SF :=
  (sAsg (.tp [(.nm 2), (.nm 3), (.nm 4)]) (eVar 0))
def c_length_within_1 : SF :=
  (sRet (eCall F_in_lowest_terms (aCons (eOp oAdd (eVar 2) (eOp oMul (eOp oAdd (eOp oMul (eC (.int 2)) (eVar 1)) (eC (.int 1))) (eVar 3))) (aCons (eVar 4) aNil))))
def b_length_within : SF :=
  (sSeq c_length_within_0
    c_length_within_1)
def F_length_within : FF := runF 5 2 b_length_within
def c_l_mul_0 : SF :=
  (sRet (eCall F_l_low (aCons (eOp oMul (eOp oIx (eVar 0) (eC (.int 0))) (eOp oIx (eVar 1) (eC (.int 0)))) (aCons (eOp oMul (eOp oIx (eVar 0) (eC (.int 1))) (eOp oIx (eVar 1) (eC (.int 1)))) aNil))))
def b_l_mul : SF :=
  c_l_mul_0
def F_l_mul : FF := runF 2 2 b_l_mul
def c_l_above_0 : SF :=
  (sAsg (.nm 1) (eOp oIx (eLst (aCons (eC (.int 6)) (aCons (eC (.int 6)) (aCons (eC (.int 12)) (aCons (eC (.int 12)) (aCons (eOp oSub (eOp oPow (eC (.int 10)) (eC (.int 9))) (eC (.int 1))) aNil)))))) (eCall F_l_draw (aCons (eVar 0) (aCons (eC (.int 5)) aNil)))))
def c_l_above_1 : SF :=
  (sRet (eCall F_l_low (aCons (eOp oAdd (eC (.int 1)) (eCall F_l_draw (aCons (eVar 0) (aCons (eVar 1) aNil)))) (aCons (eOp oAdd (eC (.int 1)) (eCall F_l_draw (aCons (eVar 0) (aCons (eVar 1) aNil)))) aNil))))
def b_l_above : SF :=
  (sSeq c_l_above_0
    c_l_above_1)
def F_l_above : FF := runF 2 1 b_l_above
def c_is_stretch_0 : SF :=
  (sIf (bNot (tTru (eCall F_is_tuple_of (aCons (eVar 0) (aCons (eC (.int 3)) aNil)))))
    (sRet (eC (.bl false)))
    sNil)
def c_is_stretch_1 : SF :=
  (sAsg (.tp [(.nm 1), (.nm 2), (.nm 3)]) (eVar 0))
def c_is_stretch_2 : SF :=
  (sRet (eAnd (eCall F_is_whole_within (aCons (eVar 1) (aCons (eC (.int 1)) (aCons (eC (.int 200000)) aNil)))) (eAnd (eCall F_is_above_nought (aCons (eVar 2) aNil)) (eCall F_is_above_nought (aCons (eVar 3) aNil)))))
def b_is_stretch : SF :=
  (sSeq c_is_stretch_0
    (sSeq c_is_stretch_1
    c_is_stretch_2))
def F_is_stretch : FF := runF 4 1 b_is_stretch
def c_length_at_0 : SF :=
  (sAsg (.tp [(.nm 2), (.nm 3)]) (eVar 0))
def c_length_at_1 : SF :=
  (sAsg (.nm 4) (eC (.int 0)))
def c_length_at_2_0 : SF :=
  (sIf (tTru (eOp oLt (eVar 1) (eOp oAdd (eVar 4) (eOp oIx (eVar 5) (eC (.int 0))))))
    (sRet (eCall F_length_within (aCons (eCall F_line_of (aCons (eVar 5) aNil)) (aCons (eOp oSub (eVar 1) (eVar 4)) aNil))))
    sNil)
def c_length_at_2_1 : SF :=
  (sAug 4 (eOp oIx (eVar 5) (eC (.int 0))))
def c_length_at_2 : SF :=
  (sFor (iSeq (eVar 2)) (.nm 5)
    (sSeq c_length_at_2_0
    c_length_at_2_1))
def c_length_at_3 : SF :=
  (sRet (eVar 3))
def b_length_at : SF :=
  (sSeq c_length_at_0
    (sSeq c_length_at_1
    (sSeq c_length_at_2
    c_length_at_3)))
def F_length_at : FF := runF 6 2 b_length_at
def c_rise_of_0 : SF :=
  (sAsg (.tp [(.nm 1), (.nm 2), (.nm 3)]) (eVar 0))
def c_rise_of_1 : SF :=
  (sRet (eCall F_over (aCons (eCall F_minus (aCons (eVar 3) (aCons (eVar 2) aNil))) (aCons (eTup (aCons (eVar 1) (aCons (eC (.int 1)) aNil))) aNil))))
def b_rise_of : SF :=
  (sSeq c_rise_of_0
    c_rise_of_1)
def F_rise_of : FF := runF 4 1 b_rise_of
def c_l_goes_on_0 : SF :=
  (sAsg (.nm 2) (eCall F_l_mul (aCons (eCall F_l_sub (aCons (eOp oIx (eVar 0) (eC (.int 2))) (aCons (eOp oIx (eVar 0) (eC (.int 1))) aNil))) (aCons (eTup (aCons (eC (.int 1)) (aCons (eOp oIx (eVar 0) (eC (.int 0))) aNil))) aNil))))
def c_l_goes_on_1 : SF :=
  (sRet (eAnd (eOp oEq (eOp oIx (eVar 0) (eC (.int 2))) (eOp oIx (eVar 1) (eC (.int 1)))) (eOp oEq (eVar 2) (eCall F_l_mul (aCons (eCall F_l_sub (aCons (eOp oIx (eVar 1) (eC (.int 2))) (aCons (eOp oIx (eVar 1) (eC (.int 1))) aNil))) (aCons (eTup (aCons (eC (.int 1)) (aCons (eOp oIx (eVar 1) (eC (.int 0))) aNil))) aNil))))))
def b_l_goes_on : SF :=
  (sSeq c_l_goes_on_0
    c_l_goes_on_1)
def F_l_goes_on : FF := runF 3 2 b_l_goes_on
def c_goes_on_0 : SF :=
  (sRet (eAnd (eOp oEq (eOp oIx (eVar 0) (eC (.int 2))) (eOp oIx (eVar 1) (eC (.int 1)))) (eOp oEq (eCall F_rise_of (aCons (eVar 0) aNil)) (eCall F_rise_of (aCons (eVar 1) aNil)))))
def b_goes_on : SF :=
  c_goes_on_0
def F_goes_on : FF := runF 2 2 b_goes_on
def fu_l_tempo_0 : Lc → Sto → Nat := fun (ρ : Lc) _ => 1000
def c_l_tempo_0 : SF :=
  (sAsg (.nm 2) (eCall F_l_above (aCons (eVar 0) aNil)))
def c_l_tempo_1 : SF :=
  (sAsg (.nm 3) (eLstS aNil))
def c_l_tempo_2_0 : SF :=
  (sAsg (.nm 5) (eCall F_l_above (aCons (eVar 0) aNil)))
def c_l_tempo_2_1 : SF :=
  (sIf (bAnd (tTru (eOp oNe (eVar 3) (eLst aNil))) (tTru (eOp oEq (eCall F_l_draw (aCons (eVar 0) (aCons (eC (.int 2)) aNil))) (eC (.int 0)))))
    (sAsg (.nm 5) (eOp oIx (eOp oIx (eVar 3) (eNeg (eC (.int 1)))) (eC (.int 2))))
    sNil)
def c_l_tempo_2_2 : SF :=
  (sAsg (.nm 6) (eOp oIx (eLst (aCons (eVar 5) (aCons (eCall F_l_above (aCons (eVar 0) aNil)) (aCons (eVar 2) aNil)))) (eCall F_l_draw (aCons (eVar 0) (aCons (eC (.int 3)) aNil)))))
def c_l_tempo_2_3 : SF :=
  (sAsg (.nm 7) (eTup (aCons (eOp oAdd (eC (.int 1)) (eCall F_l_draw (aCons (eVar 0) (aCons (eOp oIx (eLst (aCons (eC (.int 12)) (aCons (eC (.int 12)) (aCons (eC (.int 9000)) aNil)))) (eCall F_l_draw (aCons (eVar 0) (aCons (eC (.int 3)) aNil)))) aNil)))) (aCons (eVar 5) (aCons (eVar 6) aNil)))))
def c_l_tempo_2_4 : SF :=
  (sIf (bOr (tTru (eOp oEq (eVar 3) (eLst aNil))) (bNot (tTru (eCall F_l_goes_on (aCons (eOp oIx (eVar 3) (eNeg (eC (.int 1)))) (aCons (eVar 7) aNil))))))
    (sExpr (eApp (eVar 3) (eVar 7)))
    sNil)
def c_l_tempo_2 : SF :=
  (sFor (iRng (aCons (eCall F_l_draw (aCons (eVar 0) (aCons (eOp oAdd (eVar 1) (eC (.int 1))) aNil))) aNil)) (.nm 4)
    (sSeq c_l_tempo_2_0
    (sSeq c_l_tempo_2_1
    (sSeq c_l_tempo_2_2
    (sSeq c_l_tempo_2_3
    c_l_tempo_2_4)))))
def c_l_tempo_3_0 : SF :=
  (sExpr (ePop (eVar 3)))
def c_l_tempo_3 : SF :=
  (sWh fu_l_tempo_0 (bAnd (tTru (eOp oNe (eVar 3) (eLst aNil))) (tTru (eOp oEq (eSl (eOp oIx (eVar 3) (eNeg (eC (.int 1)))) (pAt (eC (.int 1))) pNo) (eTup (aCons (eVar 2) (aCons (eVar 2) aNil))))))
    c_l_tempo_3_0)
def c_l_tempo_4 : SF :=
  (sRet (eTup (aCons (eB cTuple (aCons (eVar 3) aNil)) (aCons (eVar 2) aNil))))
def b_l_tempo : SF :=
  (sSeq c_l_tempo_0
    (sSeq c_l_tempo_1
    (sSeq c_l_tempo_2
    (sSeq c_l_tempo_3
    c_l_tempo_4))))
def F_l_tempo : FF := runF 8 2 b_l_tempo
def c_is_plain_0_0 : SF :=
  (sIf (tTru (eCall F_goes_on (aCons (eOp oIx (eVar 0) (eOp oSub (eVar 2) (eC (.int 1)))) (aCons (eOp oIx (eVar 0) (eVar 2)) aNil))))
    (sRet (eC (.bl false)))
    sNil)
def c_is_plain_0 : SF :=
  (sFor (iRng (aCons (eC (.int 1)) (aCons (eB cLen (aCons (eVar 0) aNil)) aNil))) (.nm 2)
    c_is_plain_0_0)
def c_is_plain_1 : SF :=
  (sRet (eOr (eNot (eVar 0)) (eOp oNe (eSl (eOp oIx (eVar 0) (eNeg (eC (.int 1)))) (pAt (eC (.int 1))) pNo) (eTup (aCons (eVar 1) (aCons (eVar 1) aNil))))))
def b_is_plain : SF :=
  (sSeq c_is_plain_0
    c_is_plain_1)
def F_is_plain : FF := runF 3 2 b_is_plain
def c_is_tempo_0 : SF :=
  (sIf (bNot (tTru (eCall F_is_tuple_of (aCons (eVar 0) (aCons (eC (.int 2)) aNil)))))
    (sRet (eC (.bl false)))
    sNil)
def c_is_tempo_1 : SF :=
  (sAsg (.tp [(.nm 1), (.nm 2)]) (eVar 0))
def c_is_tempo_2 : SF :=
  (sIf (bOr (bNot (tTru (eIs (eVar 1) "tuple"))) (tTru (eOp oGt (eB cLen (aCons (eVar 1) aNil)) (eC (.int 24)))))
    (sRet (eC (.bl false)))
    sNil)
def c_is_tempo_3 : SF :=
  (sIf (bOr (bNot (tTru (eCall F_is_above_nought (aCons (eVar 2) aNil)))) (bNot (tTru (eB cAll (aCons (eLc (iSeq (eVar 1)) (.nm 3) cYes (eCall F_is_stretch (aCons (eVar 3) aNil)) [3]) aNil)))))
    (sRet (eC (.bl false)))
    sNil)
def c_is_tempo_4 : SF :=
  (sRet (eAnd (eOp oLe (eB cSum (aCons (eLc (iSeq (eVar 1)) (.nm 3) cYes (eOp oIx (eVar 3) (eC (.int 0))) [3]) aNil)) (eC (.int 200000))) (eCall F_is_plain (aCons (eVar 1) (aCons (eVar 2) aNil)))))
def b_is_tempo : SF :=
  (sSeq c_is_tempo_0
    (sSeq c_is_tempo_1
    (sSeq c_is_tempo_2
    (sSeq c_is_tempo_3
    c_is_tempo_4))))
def F_is_tempo : FF := runF 4 1 b_is_tempo
def c_refuse_no_tempo_0 : SF :=
  (sIf (bNot (tTru (eCall F_is_tempo (aCons (eVar 0) aNil))))
    (sRaise "NoTempo")
    sNil)
def b_refuse_no_tempo : SF :=
  c_refuse_no_tempo_0
def F_refuse_no_tempo : FF := runF 1 1 b_refuse_no_tempo
def c_length_of_0 : SF :=
  (sExpr (eCall F_refuse_no_tempo (aCons (eVar 0) aNil)))
def c_length_of_1 : SF :=
  (sIf (bOr (bNot (tTru (eCall F_is_whole (aCons (eVar 1) aNil)))) (tTru (eOp oLt (eVar 1) (eC (.int 0)))))
    (sRaise "NoStep")
    sNil)
def c_length_of_2 : SF :=
  (sRet (eCall F_length_at (aCons (eVar 0) (aCons (eVar 1) aNil))))
def b_length_of : SF :=
  (sSeq c_length_of_0
    (sSeq c_length_of_1
    c_length_of_2))
def F_length_of : FF := runF 2 2 b_length_of
def c_l_line_0 : SF :=
  (sRet (eCall F_l_add (aCons (eOp oIx (eVar 0) (eC (.int 1))) (aCons (eCall F_l_mul (aCons (eCall F_l_sub (aCons (eOp oIx (eVar 0) (eC (.int 2))) (aCons (eOp oIx (eVar 0) (eC (.int 1))) aNil))) (aCons (eCall F_l_low (aCons (eVar 1) (aCons (eOp oMul (eC (.int 2)) (eOp oIx (eVar 0) (eC (.int 0)))) aNil))) aNil))) aNil))))
def b_l_line : SF :=
  c_l_line_0
def F_l_line : FF := runF 2 2 b_l_line
def c_l_near_0 : SF :=
  (sAsg (.nm 2) (eCall F_l_add (aCons (eOp oIx (eVar 1) (eC (.int 1))) (aCons (eTup (aCons (eC (.int 1)) (aCons (eC (.int 2)) aNil))) aNil))))
def c_l_near_1 : SF :=
  (sIf (bOr (tTru (eOp oEq (eCall F_l_draw (aCons (eVar 0) (aCons (eC (.int 2)) aNil))) (eC (.int 0)))) (bAnd (tTru (eOp oNe (eOp oIx (eVar 1) (eC (.int 0))) (eTup aNil))) (tTru (eOp oEq (eSl (eOp oIx (eOp oIx (eVar 1) (eC (.int 0))) (eNeg (eC (.int 1)))) (pAt (eC (.int 1))) pNo) (eTup (aCons (eVar 2) (aCons (eVar 2) aNil)))))))
    (sRet (eCall F_l_tempo (aCons (eVar 0) (aCons (eC (.int 3)) aNil))))
    sNil)
def c_l_near_2 : SF :=
  (sRet (eTup (aCons (eOp oIx (eVar 1) (eC (.int 0))) (aCons (eVar 2) aNil))))
def b_l_near : SF :=
  (sSeq c_l_near_0
    (sSeq c_l_near_1
    c_l_near_2))
def F_l_near : FF := runF 3 2 b_l_near
def c_l_length_0_0 : SF :=
  (sIf (tTru (eOp oLt (eVar 1) (eOp oIx (eVar 2) (eC (.int 0)))))
    (sRet (eCall F_l_line (aCons (eVar 2) (aCons (eOp oAdd (eOp oMul (eC (.int 2)) (eVar 1)) (eC (.int 1))) aNil))))
    sNil)
def c_l_length_0_1 : SF :=
  (sAsg (.nm 1) (eOp oSub (eVar 1) (eOp oIx (eVar 2) (eC (.int 0)))))
def c_l_length_0 : SF :=
  (sFor (iSeq (eOp oIx (eVar 0) (eC (.int 0)))) (.nm 2)
    (sSeq c_l_length_0_0
    c_l_length_0_1))
def c_l_length_1 : SF :=
  (sRet (eOp oIx (eVar 0) (eC (.int 1))))
def b_l_length : SF :=
  (sSeq c_l_length_0
    c_l_length_1)
def F_l_length : FF := runF 3 2 b_l_length
def c_l_twice_0 : SF :=
  (sAsg (.tp [(.nm 2), (.nm 3)]) (eVar 1))
def c_l_twice_1 : SF :=
  (sIf (bOr (tTru (eOp oLt (eB cLen (aCons (eVar 2) aNil)) (eC (.int 2)))) (bOr (tTru (eOp oEq (eSl (eOp oIx (eVar 2) (eC (.int 0))) (pAt (eC (.int 1))) pNo) (eTup (aCons (eVar 3) (aCons (eVar 3) aNil))))) (bOr (tTru (eCall F_l_goes_on (aCons (eOp oIx (eVar 2) (eNeg (eC (.int 1)))) (aCons (eOp oIx (eVar 2) (eC (.int 0))) aNil)))) (tTru (eOp oEq (eCall F_l_draw (aCons (eVar 0) (aCons (eC (.int 2)) aNil))) (eC (.int 0)))))))
    (sRet (eVar 1))
    sNil)
def c_l_twice_2 : SF :=
  (sRet (eTup (aCons (eOp oAdd (eVar 2) (eSl (eVar 2) pNo (pAt (eC (.int 1))))) (aCons (eVar 3) aNil))))
def b_l_twice : SF :=
  (sSeq c_l_twice_0
    (sSeq c_l_twice_1
    c_l_twice_2))
def F_l_twice : FF := runF 4 2 b_l_twice
def c_l_bent_0 (F_l_bent : FF) : SF :=
  (sIf (bAnd (tTru (eIs (eVar 1) "tuple")) (bAnd (tTru (eOp oNe (eVar 1) (eTup aNil))) (tTru (eOp oGt (eCall F_l_draw (aCons (eVar 0) (aCons (eC (.int 6)) aNil))) (eC (.int 0))))))
    (sSeq (sAsg (.nm 2) (eCall F_l_draw (aCons (eVar 0) (aCons (eB cLen (aCons (eVar 1) aNil)) aNil))))
    (sRet (eOp oAdd (eOp oAdd (eSl (eVar 1) pNo (pAt (eVar 2))) (eTup (aCons (eCall F_l_bent (aCons (eVar 0) (aCons (eOp oIx (eVar 1) (eVar 2)) aNil))) aNil))) (eSl (eVar 1) (pAt (eOp oAdd (eVar 2) (eC (.int 1)))) pNo))))
    sNil)
def c_l_bent_1 (F_l_bent : FF) : SF :=
  (sAsg (.nm 3) (eLst (aCons (eC .non) (aCons (eC (.bl true)) (aCons (eC (.bl false)) (aCons (eNeg (eC (.int 1))) (aCons (eC (.int 0)) (aCons (eC (.int 1)) (aCons (eC (.str "")) (aCons (eC (.str "a")) (aCons (eTup aNil) (aCons (eLst aNil) (aCons (eC (.dct [])) (aCons (eTup (aCons (eC (.int 1)) (aCons (eC (.int 1)) aNil))) (aCons (eTup (aCons (eC (.int 2)) (aCons (eC (.int 4)) aNil))) (aCons (eTup (aCons (eC (.int 0)) (aCons (eC (.int 1)) aNil))) (aCons (eLst (aCons (eC (.int 1)) (aCons (eC (.int 1)) aNil))) (aCons (eTup (aCons (eTup (aCons (eC (.int 1)) (aCons (eC (.int 1)) aNil))) aNil)) aNil))))))))))))))))))
def c_l_bent_2 (F_l_bent : FF) : SF :=
  (sAsg (.nm 4) (eCall F_l_draw (aCons (eVar 0) (aCons (eC (.int 3)) aNil))))
def c_l_bent_3 (F_l_bent : FF) : SF :=
  (sIf (bAnd (tTru (eOp oGt (eVar 4) (eC (.int 0)))) (tTru (eIs (eVar 1) "tuple")))
    (sAsg (.nm 3) (eLst (aCons (eB cList (aCons (eVar 1) aNil)) (aCons (eRev (eVar 1)) (aCons (eOp oAdd (eVar 1) (eSl (eVar 1) pNo (pAt (eC (.int 1))))) (aCons (eSl (eVar 1) (pAt (eC (.int 1))) pNo) (aCons (eSl (eVar 1) pNo (pAt (eNeg (eC (.int 1))))) (aCons (eTup (aCons (eVar 1) aNil)) (aCons (eOp oAdd (eVar 1) (eVar 1)) aNil)))))))))
    (sIf (bAnd (tTru (eOp oGt (eVar 4) (eC (.int 0)))) (tTru (eIs (eVar 1) "int")))
    (sAsg (.nm 3) (eLst (aCons (eOp oAdd (eVar 1) (eC (.int 1))) (aCons (eOp oSub (eVar 1) (eC (.int 1))) (aCons (eOp oSub (eC (.int 0)) (eVar 1)) (aCons (eOp oMul (eVar 1) (eC (.int 2))) (aCons (eOp oAdd (eVar 1) (eC (.int 200000))) (aCons (eB cStr (aCons (eVar 1) aNil)) (aCons (eOp oGt (eVar 1) (eC (.int 0))) aNil)))))))))
    sNil))
def c_l_bent_4 (F_l_bent : FF) : SF :=
  (sRet (eOp oIx (eVar 3) (eCall F_l_draw (aCons (eVar 0) (aCons (eB cLen (aCons (eVar 3) aNil)) aNil)))))
def b_l_bent (F_l_bent : FF) : SF :=
  (sSeq (c_l_bent_0 F_l_bent)
    (sSeq (c_l_bent_1 F_l_bent)
    (sSeq (c_l_bent_2 F_l_bent)
    (sSeq (c_l_bent_3 F_l_bent)
    (c_l_bent_4 F_l_bent)))))
def R_l_bent : Nat → FF
  | 0 => fun _ _ => .no
  | d + 1 => runF 5 2 (b_l_bent (R_l_bent d))
abbrev F_l_bent : FF := R_l_bent 12
def c_l_bad_tempos_0 : SF :=
  (sAsg (.tp [(.nm 2), (.nm 3)]) (eVar 1))
def c_l_bad_tempos_1 : SF :=
  (sAsg (.nm 4) (eB cTuple (aCons (eLc (iRng (aCons (eC (.int 25)) aNil)) (.nm 5) cYes (eTup (aCons (eOp oAdd (eC (.int 1)) (eVar 5)) (aCons (eTup (aCons (eOp oAdd (eC (.int 1)) (eOp oMod (eVar 5) (eC (.int 2)))) (aCons (eC (.int 3)) aNil))) (aCons (eTup (aCons (eOp oAdd (eC (.int 1)) (eOp oMod (eVar 5) (eC (.int 2)))) (aCons (eC (.int 3)) aNil))) aNil)))) [5]) aNil)))
def c_l_bad_tempos_2 : SF :=
  (sAsg (.nm 6) (eLst (aCons (eTup (aCons (eVar 2) (aCons (eTup (aCons (eC (.int 0)) (aCons (eC (.int 1)) aNil))) aNil))) (aCons (eTup (aCons (eOp oAdd (eVar 2) (eTup (aCons (eTup (aCons (eC (.int 0)) (aCons (eTup (aCons (eC (.int 1)) (aCons (eC (.int 1)) aNil))) (aCons (eTup (aCons (eC (.int 2)) (aCons (eC (.int 1)) aNil))) aNil)))) aNil))) (aCons (eVar 3) aNil))) (aCons (eTup (aCons (eVar 2) aNil)) (aCons (eB cList (aCons (eVar 1) aNil)) (aCons (eC .non) (aCons (eVar 2) (aCons (eTup (aCons (eVar 4) (aCons (eTup (aCons (eC (.int 3)) (aCons (eC (.int 1)) aNil))) aNil))) aNil)))))))))
def c_l_bad_tempos_3 : SF :=
  (sAsg (.nm 6) (eOp oAdd (eVar 6) (eLst (aCons (eTup (aCons (eTup (aCons (eTup (aCons (eC (.int 200001)) (aCons (eTup (aCons (eC (.int 1)) (aCons (eC (.int 1)) aNil))) (aCons (eTup (aCons (eC (.int 2)) (aCons (eC (.int 1)) aNil))) aNil)))) aNil)) (aCons (eVar 3) aNil))) (aCons (eTup (aCons (eOp oAdd (eVar 2) (eTup (aCons (eTup (aCons (eC (.int 7)) (aCons (eVar 3) (aCons (eVar 3) aNil)))) aNil))) (aCons (eVar 3) aNil))) (aCons (eTup (aCons (eVar 2) (aCons (eVar 3) (aCons (eVar 3) aNil)))) aNil))))))
def c_l_bad_tempos_4 : SF :=
  (sAsg (.nm 6) (eOp oAdd (eVar 6) (eLst (aCons (eTup (aCons (eTup (aCons (eTup (aCons (eC (.int 2)) (aCons (eTup (aCons (eC (.int 1)) (aCons (eC (.int 1)) aNil))) (aCons (eTup (aCons (eC (.int 2)) (aCons (eC (.int 1)) aNil))) aNil)))) (aCons (eTup (aCons (eC (.int 2)) (aCons (eTup (aCons (eC (.int 2)) (aCons (eC (.int 1)) aNil))) (aCons (eTup (aCons (eC (.int 3)) (aCons (eC (.int 1)) aNil))) aNil)))) aNil))) (aCons (eVar 3) aNil))) (aCons (eTup (aCons (eTup (aCons (eTup (aCons (eC (.int 1)) (aCons (eTup (aCons (eC (.int 2)) (aCons (eC (.int 4)) aNil))) (aCons (eTup (aCons (eC (.int 1)) (aCons (eC (.int 1)) aNil))) aNil)))) aNil)) (aCons (eVar 3) aNil))) aNil)))))
def c_l_bad_tempos_5 : SF :=
  (sAsg (.nm 6) (eOp oAdd (eVar 6) (eLst (aCons (eTup (aCons (eTup (aCons (eTup (aCons (eC (.bl true)) (aCons (eTup (aCons (eC (.int 1)) (aCons (eC (.int 1)) aNil))) (aCons (eTup (aCons (eC (.int 2)) (aCons (eC (.int 1)) aNil))) aNil)))) aNil)) (aCons (eVar 3) aNil))) (aCons (eTup (aCons (eTup (aCons (eLst (aCons (eC (.int 1)) (aCons (eTup (aCons (eC (.int 1)) (aCons (eC (.int 1)) aNil))) (aCons (eTup (aCons (eC (.int 2)) (aCons (eC (.int 1)) aNil))) aNil)))) aNil)) (aCons (eVar 3) aNil))) (aCons (eTup (aCons (eB cList (aCons (eVar 2) aNil)) (aCons (eVar 3) aNil))) aNil))))))
def c_l_bad_tempos_6 : SF :=
  (sRet (eOp oAdd (eVar 6) (eLc (iSeq (eLc (iRng (aCons (eC (.int 4)) aNil)) (.nm 5) cYes (eCall F_l_bent (aCons (eVar 0) (aCons (eVar 1) aNil))) [5])) (.nm 7) (tTru (eOp oIs (eCall F_is_tempo (aCons (eVar 7) aNil)) (eC (.bl false)))) (eVar 7) [7])))
def b_l_bad_tempos : SF :=
  (sSeq c_l_bad_tempos_0
    (sSeq c_l_bad_tempos_1
    (sSeq c_l_bad_tempos_2
    (sSeq c_l_bad_tempos_3
    (sSeq c_l_bad_tempos_4
    (sSeq c_l_bad_tempos_5
    c_l_bad_tempos_6))))))
def F_l_bad_tempos : FF := runF 8 2 b_l_bad_tempos
def c_l_steps_0 : SF :=
  (sPar 2 3 (aCons (eLst aNil) (aCons (eC (.int 0)) aNil)))
def c_l_steps_1_0 : SF :=
  (sAsg (.nm 2) (eOp oAdd (eVar 2) (eLst (aCons (eVar 3) (aCons (eOp oAdd (eVar 3) (eCall F_l_draw (aCons (eVar 0) (aCons (eOp oIx (eVar 4) (eC (.int 0))) aNil)))) (aCons (eOp oSub (eOp oAdd (eVar 3) (eOp oIx (eVar 4) (eC (.int 0)))) (eC (.int 1))) aNil))))))
def c_l_steps_1_1 : SF :=
  (sAsg (.nm 3) (eOp oAdd (eVar 3) (eOp oIx (eVar 4) (eC (.int 0)))))
def c_l_steps_1 : SF :=
  (sFor (iSeq (eOp oIx (eVar 1) (eC (.int 0)))) (.nm 4)
    (sSeq c_l_steps_1_0
    c_l_steps_1_1))
def c_l_steps_2 : SF :=
  (sRet (eOp oAdd (eVar 2) (eLst (aCons (eVar 3) (aCons (eOp oAdd (eVar 3) (eC (.int 1))) (aCons (eOp oAdd (eVar 3) (eCall F_l_draw (aCons (eVar 0) (aCons (eOp oPow (eC (.int 10)) (eC (.int 6))) aNil)))) (aCons (eOp oSub (eOp oPow (eC (.int 10)) (eC (.int 12))) (eCall F_l_draw (aCons (eVar 0) (aCons (eC (.int 9)) aNil)))) aNil)))))))
def b_l_steps : SF :=
  (sSeq c_l_steps_0
    (sSeq c_l_steps_1
    c_l_steps_2))
def F_l_steps : FF := runF 5 2 b_l_steps
def c_l_full_0 : SF :=
  (sAsg (.tp [(.nm 1), (.nm 2)]) (eTup (aCons (eCall F_l_above (aCons (eVar 0) aNil)) (aCons (eLstS aNil) aNil))))
def c_l_full_1_0 : SF :=
  (sAsg (.tp [(.nm 4), (.nm 5), (.nm 6)]) (eTup (aCons (eOp oIx (eLst (aCons (eC (.int 8333)) (aCons (eC (.int 8341)) aNil))) (eB cInt (aCons (eOp oEq (eVar 3) (eC (.int 23))) aNil))) (aCons (eCall F_l_above (aCons (eVar 0) aNil)) (aCons (eCall F_l_above (aCons (eVar 0) aNil)) aNil)))))
def c_l_full_1_1 : SF :=
  (sAsg (.nm 7) (eLc (iRng (aCons (eC (.int 3)) aNil)) (.nm 8) cYes (eTup (aCons (eVar 4) (aCons (eVar 5) (aCons (eCall F_l_add (aCons (eVar 6) (aCons (eTup (aCons (eVar 8) (aCons (eC (.int 1)) aNil))) aNil))) aNil)))) [8]))
def c_l_full_1_2 : SF :=
  (sAsg (.nm 7) (eLc (iSeq (eVar 7)) (.nm 9) (tTru (eOp oNe (eSl (eVar 9) (pAt (eC (.int 1))) pNo) (eTup (aCons (eVar 1) (aCons (eVar 1) aNil))))) (eVar 9) [9]))
def c_l_full_1_3 : SF :=
  (sAsg (.nm 7) (eLc (iSeq (eVar 7)) (.nm 9) (bOr (tTru (eOp oEq (eVar 2) (eLst aNil))) (bNot (tTru (eCall F_l_goes_on (aCons (eOp oIx (eVar 2) (eNeg (eC (.int 1)))) (aCons (eVar 9) aNil)))))) (eVar 9) [9]))
def c_l_full_1_4 : SF :=
  (sExpr (eApp (eVar 2) (eOp oIx (eVar 7) (eC (.int 0)))))
def c_l_full_1 : SF :=
  (sFor (iRng (aCons (eC (.int 24)) aNil)) (.nm 3)
    (sSeq c_l_full_1_0
    (sSeq c_l_full_1_1
    (sSeq c_l_full_1_2
    (sSeq c_l_full_1_3
    c_l_full_1_4)))))
def c_l_full_2 : SF :=
  (sRet (eTup (aCons (eB cTuple (aCons (eVar 2) aNil)) (aCons (eVar 1) aNil))))
def b_l_full : SF :=
  (sSeq c_l_full_0
    (sSeq c_l_full_1
    c_l_full_2))
def F_l_full : FF := runF 10 1 b_l_full
end Fx
set_option Elab.async false
set_option linter.all false
set_option maxRecDepth 100000
namespace Lk08
open PySem L2 DV Fx
abbrev sub_LaneError_h : Str → Option Bool := tabX [("NoFraction", true), ("NoStep", true), ("NoTempo", true)]
abbrev sub_ValueError : Str → Option Bool := tabX [("NoFraction", true), ("NoStep", true), ("NoTempo", true)]
abbrev sub_Full : Str → Option Bool := tabX [("NoFraction", false), ("NoStep", false), ("NoTempo", false)]
abbrev sub_LaneError : Str → Option Bool := tabX [("NoFraction", true), ("NoStep", true), ("NoTempo", true)]
abbrev sub_Leaned : Str → Option Bool := tabX [("NoFraction", false), ("NoStep", false), ("NoTempo", false)]
abbrev sub_NoCount : Str → Option Bool := tabX [("NoFraction", false), ("NoStep", false), ("NoTempo", false)]
abbrev sub_NoDeed : Str → Option Bool := tabX [("NoFraction", false), ("NoStep", false), ("NoTempo", false)]
abbrev sub_NoFar : Str → Option Bool := tabX [("NoFraction", false), ("NoStep", false), ("NoTempo", false)]
abbrev sub_NoFraction : Str → Option Bool := tabX [("NoFraction", true), ("NoStep", false), ("NoTempo", false)]
abbrev sub_NoGlue : Str → Option Bool := tabX [("NoFraction", false), ("NoStep", false), ("NoTempo", false)]
abbrev sub_NoLane : Str → Option Bool := tabX [("NoFraction", false), ("NoStep", false), ("NoTempo", false)]
abbrev sub_NoLevel : Str → Option Bool := tabX [("NoFraction", false), ("NoStep", false), ("NoTempo", false)]
abbrev sub_NoLong : Str → Option Bool := tabX [("NoFraction", false), ("NoStep", false), ("NoTempo", false)]
abbrev sub_NoMoment : Str → Option Bool := tabX [("NoFraction", false), ("NoStep", false), ("NoTempo", false)]
abbrev sub_NoName : Str → Option Bool := tabX [("NoFraction", false), ("NoStep", false), ("NoTempo", false)]
abbrev sub_NoNumber : Str → Option Bool := tabX [("NoFraction", false), ("NoStep", false), ("NoTempo", false)]
abbrev sub_NoPiece : Str → Option Bool := tabX [("NoFraction", false), ("NoStep", false), ("NoTempo", false)]
abbrev sub_NoPlace : Str → Option Bool := tabX [("NoFraction", false), ("NoStep", false), ("NoTempo", false)]
abbrev sub_NoRank : Str → Option Bool := tabX [("NoFraction", false), ("NoStep", false), ("NoTempo", false)]
abbrev sub_NoRow : Str → Option Bool := tabX [("NoFraction", false), ("NoStep", false), ("NoTempo", false)]
abbrev sub_NoSheet : Str → Option Bool := tabX [("NoFraction", false), ("NoStep", false), ("NoTempo", false)]
abbrev sub_NoSide : Str → Option Bool := tabX [("NoFraction", false), ("NoStep", false), ("NoTempo", false)]
abbrev sub_NoStep : Str → Option Bool := tabX [("NoFraction", false), ("NoStep", true), ("NoTempo", false)]
abbrev sub_NoTake : Str → Option Bool := tabX [("NoFraction", false), ("NoStep", false), ("NoTempo", false)]
abbrev sub_NoTempo : Str → Option Bool := tabX [("NoFraction", false), ("NoStep", false), ("NoTempo", true)]
abbrev sub_NoText : Str → Option Bool := tabX [("NoFraction", false), ("NoStep", false), ("NoTempo", false)]
abbrev sub_NoVersion : Str → Option Bool := tabX [("NoFraction", false), ("NoStep", false), ("NoTempo", false)]
abbrev sub_Taken : Str → Option Bool := tabX [("NoFraction", false), ("NoStep", false), ("NoTempo", false)]
abbrev sub_TooMany : Str → Option Bool := tabX [("NoFraction", false), ("NoStep", false), ("NoTempo", false)]
abbrev sub_Used : Str → Option Bool := tabX [("NoFraction", false), ("NoStep", false), ("NoTempo", false)]
def c_l_word_0 : SF :=
  (sAsg (.nm 1) (eLst (aCons (eC (.str "full")) (aCons (eC (.str "leaned")) (aCons (eC (.str "count")) (aCons (eC (.str "deed")) (aCons (eC (.str "far")) (aCons (eC (.str "fraction")) (aCons (eC (.str "glue")) (aCons (eC (.str "lane")) (aCons (eC (.str "level")) (aCons (eC (.str "long")) (aCons (eC (.str "moment")) (aCons (eC (.str "name")) aNil))))))))))))))
def c_l_word_1 : SF :=
  (sAsg (.nm 1) (eOp oAdd (eVar 1) (eLst (aCons (eC (.str "number")) (aCons (eC (.str "piece")) (aCons (eC (.str "place")) (aCons (eC (.str "rank")) (aCons (eC (.str "row")) (aCons (eC (.str "sheet")) (aCons (eC (.str "side")) (aCons (eC (.str "step")) (aCons (eC (.str "take")) (aCons (eC (.str "tempo")) (aCons (eC (.str "text")) aNil))))))))))))))
def c_l_word_2 : SF :=
  (sAsg (.nm 1) (eOp oAdd (eVar 1) (eLst (aCons (eC (.str "version")) (aCons (eC (.str "taken")) (aCons (eC (.str "many")) (aCons (eC (.str "used")) aNil)))))))
def c_l_word_3 : SF :=
  (sAsg (.nm 2) (eLst (aCons (eIsX (eVar 0) sub_Full) (aCons (eIsX (eVar 0) sub_Leaned) (aCons (eIsX (eVar 0) sub_NoCount) (aCons (eIsX (eVar 0) sub_NoDeed) aNil))))))
def c_l_word_4 : SF :=
  (sAsg (.nm 2) (eOp oAdd (eVar 2) (eLst (aCons (eIsX (eVar 0) sub_NoFar) (aCons (eIsX (eVar 0) sub_NoFraction) (aCons (eIsX (eVar 0) sub_NoGlue) (aCons (eIsX (eVar 0) sub_NoLane) aNil)))))))
def c_l_word_5 : SF :=
  (sAsg (.nm 2) (eOp oAdd (eVar 2) (eLst (aCons (eIsX (eVar 0) sub_NoLevel) (aCons (eIsX (eVar 0) sub_NoLong) (aCons (eIsX (eVar 0) sub_NoMoment) (aCons (eIsX (eVar 0) sub_NoName) aNil)))))))
def c_l_word_6 : SF :=
  (sAsg (.nm 2) (eOp oAdd (eVar 2) (eLst (aCons (eIsX (eVar 0) sub_NoNumber) (aCons (eIsX (eVar 0) sub_NoPiece) (aCons (eIsX (eVar 0) sub_NoPlace) (aCons (eIsX (eVar 0) sub_NoRank) aNil)))))))
def c_l_word_7 : SF :=
  (sAsg (.nm 2) (eOp oAdd (eVar 2) (eLst (aCons (eIsX (eVar 0) sub_NoRow) (aCons (eIsX (eVar 0) sub_NoSheet) (aCons (eIsX (eVar 0) sub_NoSide) (aCons (eIsX (eVar 0) sub_NoStep) aNil)))))))
def c_l_word_8 : SF :=
  (sAsg (.nm 2) (eOp oAdd (eVar 2) (eLst (aCons (eIsX (eVar 0) sub_NoTake) (aCons (eIsX (eVar 0) sub_NoTempo) (aCons (eIsX (eVar 0) sub_NoText) (aCons (eIsX (eVar 0) sub_NoVersion) aNil)))))))
def c_l_word_9 : SF :=
  (sAsg (.nm 2) (eOp oAdd (eVar 2) (eLst (aCons (eIsX (eVar 0) sub_Taken) (aCons (eIsX (eVar 0) sub_TooMany) (aCons (eIsX (eVar 0) sub_Used) aNil))))))
def c_l_word_10 : SF :=
  (sIf (bOr (tTru (eOp oNe (eCnt (eVar 2) (eC (.bl true))) (eC (.int 1)))) (bOr (bNot (tTru (eIsX (eVar 0) sub_LaneError))) (bNot (tTru (eIsX (eVar 0) sub_ValueError)))))
    (sRet (eC (.str "other")))
    sNil)
def c_l_word_11 : SF :=
  (sRet (eOp oIx (eVar 1) (eIdx (eVar 2) (eC (.bl true)))))
def b_l_word : SF :=
  (sSeq c_l_word_0
    (sSeq c_l_word_1
    (sSeq c_l_word_2
    (sSeq c_l_word_3
    (sSeq c_l_word_4
    (sSeq c_l_word_5
    (sSeq c_l_word_6
    (sSeq c_l_word_7
    (sSeq c_l_word_8
    (sSeq c_l_word_9
    (sSeq c_l_word_10
    c_l_word_11)))))))))))
def F_l_word : FF := runF 3 1 b_l_word
def c_l_near_0 : SF :=
  (sAsg (.nm 2) (eCall F_l_draw (aCons (eVar 0) (aCons (eC (.int 3)) aNil))))
def c_l_near_1 : SF :=
  (sIf (bOr (tTru (eOp oEq (eVar 2) (eC (.int 0)))) (tTru (eOp oEq (eOp oIx (eVar 1) (eC (.int 0))) (eTup aNil))))
    (sRet (eCall F_l_tempo (aCons (eVar 0) (aCons (eC (.int 6)) aNil))))
    sNil)
def c_l_near_2 : SF :=
  (sAsg (.tp [(.nm 3), (.nm 4), (.nm 5)]) (eOp oIx (eOp oIx (eVar 1) (eC (.int 0))) (eNeg (eC (.int 1)))))
def c_l_near_3 : SF :=
  (sIf (bAnd (tTru (eOp oEq (eVar 2) (eC (.int 1)))) (tTru (eOp oNe (eTup (aCons (eVar 4) (aCons (eVar 5) aNil))) (eOp oMul (eTup (aCons (eCall F_l_add (aCons (eOp oIx (eVar 1) (eC (.int 1))) (aCons (eTup (aCons (eC (.int 1)) (aCons (eC (.int 3)) aNil))) aNil))) aNil)) (eC (.int 2))))))
    (sRet (eTup (aCons (eOp oIx (eVar 1) (eC (.int 0))) (aCons (eCall F_l_add (aCons (eOp oIx (eVar 1) (eC (.int 1))) (aCons (eTup (aCons (eC (.int 1)) (aCons (eC (.int 3)) aNil))) aNil))) aNil))))
    sNil)
def c_l_near_4 : SF :=
  (sAsg (.nm 6) (eTup (aCons (eOp oAdd (eVar 3) (eC (.int 1))) (aCons (eVar 4) (aCons (eCall F_l_add (aCons (eVar 5) (aCons (eTup (aCons (eC (.int 1)) (aCons (eC (.int 1)) aNil))) aNil))) aNil)))))
def c_l_near_5 : SF :=
  (sIf (bOr (tTru (eOp oEq (eSl (eVar 6) (pAt (eC (.int 1))) pNo) (eTup (aCons (eOp oIx (eVar 1) (eC (.int 1))) (aCons (eOp oIx (eVar 1) (eC (.int 1))) aNil))))) (bAnd (tTru (eOp oGt (eB cLen (aCons (eOp oIx (eVar 1) (eC (.int 0))) aNil)) (eC (.int 1)))) (tTru (eCall F_l_goes_on (aCons (eOp oIx (eOp oIx (eVar 1) (eC (.int 0))) (eNeg (eC (.int 2)))) (aCons (eVar 6) aNil))))))
    (sRet (eVar 1))
    sNil)
def c_l_near_6 : SF :=
  (sRet (eTup (aCons (eOp oAdd (eSl (eOp oIx (eVar 1) (eC (.int 0))) pNo (pAt (eNeg (eC (.int 1))))) (eTup (aCons (eVar 6) aNil))) (aCons (eOp oIx (eVar 1) (eC (.int 1))) aNil))))
def b_l_near : SF :=
  (sSeq c_l_near_0
    (sSeq c_l_near_1
    (sSeq c_l_near_2
    (sSeq c_l_near_3
    (sSeq c_l_near_4
    (sSeq c_l_near_5
    c_l_near_6))))))
def F_l_near : FF := runF 7 2 b_l_near
def c_l_asked_0 : SF :=
  (sTry sub_LaneError_h 2 (sRet (eTup (aCons (eC (.str "told")) (aCons (eCall F_length_of (aCons (eVar 0) (aCons (eVar 1) aNil))) aNil)))) (sRet (eTup (aCons (eC (.str "refused")) (aCons (eCall F_l_word (aCons (eVar 2) aNil)) aNil)))))
def b_l_asked : SF :=
  c_l_asked_0
def F_l_asked : FF := runF 3 2 b_l_asked
def c_l_full_right_0 : SF :=
  (sAsg (.nm 1) (eCall F_l_full (aCons (eVar 0) aNil)))
def c_l_full_right_1_0 : SF :=
  (sIf (bNot (tTru (eCall F_l_same (aCons (eCall F_l_asked (aCons (eVar 1) (aCons (eVar 2) aNil))) (aCons (eTup (aCons (eC (.str "told")) (aCons (eCall F_l_length (aCons (eVar 1) (aCons (eVar 2) aNil))) aNil))) aNil)))))
    (sRet (eC (.bl false)))
    sNil)
def c_l_full_right_1 : SF :=
  (sFor (iSeq (eOp oAdd (eSl (eCall F_l_steps (aCons (eVar 0) (aCons (eVar 1) aNil))) (pAt (eNeg (eC (.int 19)))) pNo) (eLst (aCons (eC (.int 0)) (aCons (eC (.int 8332)) (aCons (eC (.int 8333)) (aCons (eCall F_l_draw (aCons (eVar 0) (aCons (eC (.int 200000)) aNil))) aNil))))))) (.nm 2)
    c_l_full_right_1_0)
def c_l_full_right_2 : SF :=
  (sRet (eC (.bl true)))
def b_l_full_right : SF :=
  (sSeq c_l_full_right_0
    (sSeq c_l_full_right_1
    c_l_full_right_2))
def F_l_full_right : FF := runF 3 1 b_l_full_right
def c_law_0 : SF :=
  (sAsg (.nm 1) (eCall F_l_pen (aCons (eVar 0) aNil)))
def c_law_1 : SF :=
  (sAsg (.nm 2) (eCall F_l_twice (aCons (eVar 1) (aCons (eCall F_l_tempo (aCons (eVar 1) (aCons (eC (.int 6)) aNil))) aNil))))
def c_law_2 : SF :=
  (sAsg (.nm 3) (eCall F_l_near (aCons (eVar 1) (aCons (eVar 2) aNil))))
def c_law_3 : SF :=
  (sAsg (.nm 4) (eB cRepr (aCons (eTup (aCons (eVar 2) (aCons (eVar 3) aNil))) aNil)))
def c_law_4_0_0 : SF :=
  (sIf (bNot (tTru (eCall F_l_same (aCons (eCall F_l_asked (aCons (eVar 6) (aCons (eVar 5) aNil))) (aCons (eTup (aCons (eC (.str "told")) (aCons (eCall F_l_length (aCons (eVar 6) (aCons (eVar 5) aNil))) aNil))) aNil)))))
    (sRet (eC (.bl false)))
    sNil)
def c_law_4_0 : SF :=
  (sFor (iSeq (eTup (aCons (eVar 2) (aCons (eVar 3) (aCons (eVar 2) aNil))))) (.nm 6)
    c_law_4_0_0)
def c_law_4 : SF :=
  (sFor (iSeq (eOp oAdd (eCall F_l_steps (aCons (eVar 1) (aCons (eVar 2) aNil))) (eCall F_l_steps (aCons (eVar 1) (aCons (eVar 3) aNil))))) (.nm 5)
    c_law_4_0)
def c_law_5_0 : SF :=
  (sIf (tTru (eOp oNe (eCall F_l_asked (aCons (eVar 2) (aCons (eVar 7) aNil))) (eTup (aCons (eC (.str "refused")) (aCons (eC (.str "step")) aNil)))))
    (sRet (eC (.bl false)))
    sNil)
def c_law_5 : SF :=
  (sFor (iSeq (eTup (aCons (eNeg (eC (.int 1))) (aCons (eOp oSub (eNeg (eC (.int 1))) (eCall F_l_draw (aCons (eVar 1) (aCons (eOp oPow (eC (.int 10)) (eC (.int 9))) aNil)))) (aCons (eC (.bl true)) (aCons (eC (.bl false)) (aCons (eC .non) (aCons (eC (.str "0")) (aCons (eTup (aCons (eC (.int 0)) (aCons (eC (.int 1)) aNil))) (aCons (eTup aNil) (aCons (eLst aNil) (aCons (eC (.dct [])) aNil)))))))))))) (.nm 7)
    c_law_5_0)
def c_law_6_0 : SF :=
  (sIf (tTru (eOp oNe (eLc (iSeq (eTup (aCons (eC (.int 0)) (aCons (eNeg (eC (.int 1))) (aCons (eC .non) (aCons (eCall F_l_draw (aCons (eVar 1) (aCons (eC (.int 9)) aNil))) aNil)))))) (.nm 7) cYes (eCall F_l_asked (aCons (eVar 6) (aCons (eVar 7) aNil))) [7]) (eOp oMul (eLst (aCons (eTup (aCons (eC (.str "refused")) (aCons (eC (.str "tempo")) aNil))) aNil)) (eC (.int 4)))))
    (sRet (eC (.bl false)))
    sNil)
def c_law_6 : SF :=
  (sFor (iSeq (eCall F_l_bad_tempos (aCons (eVar 1) (aCons (eVar 2) aNil)))) (.nm 6)
    c_law_6_0)
def c_law_7 : SF :=
  (sIf (bNot (tTru (eCall F_l_same (aCons (eCall F_l_asked (aCons (eVar 2) (aCons (eC (.int 0)) aNil))) (aCons (eTup (aCons (eC (.str "told")) (aCons (eCall F_l_length (aCons (eVar 2) (aCons (eC (.int 0)) aNil))) aNil))) aNil)))))
    (sRet (eC (.bl false)))
    sNil)
def c_law_8 : SF :=
  (sRet (eAnd (eOp oEq (eB cRepr (aCons (eTup (aCons (eVar 2) (aCons (eVar 3) aNil))) aNil)) (eVar 4)) (eCall F_l_full_right (aCons (eVar 1) aNil))))
def b_law : SF :=
  (sSeq c_law_0
    (sSeq c_law_1
    (sSeq c_law_2
    (sSeq c_law_3
    (sSeq c_law_4
    (sSeq c_law_5
    (sSeq c_law_6
    (sSeq c_law_7
    c_law_8))))))))
def F_law : FF := runF 8 1 b_law
end Lk08
set_option Elab.async false
set_option linter.all false
set_option maxRecDepth 100000
namespace Lk08
open PySem PySem.Spec PyProof.Rows L2 L2H DV Fx
def top (i : Nat) : Stmt := PySem.Challenge.pw_beatlanes_k08_lengths_of_steps.main.body.getD i (.Pass ⟨0, 0, 0, 0⟩)
abbrev s_is_whole : Stmt := top 32
abbrev s_is_whole_within : Stmt := top 33
abbrev s_is_tuple_of : Stmt := top 34
abbrev s_is_fraction : Stmt := top 35
abbrev s_in_lowest_terms : Stmt := top 37
abbrev s_minus : Stmt := top 38
abbrev s_line_of : Stmt := top 51
abbrev s_l_pen : Stmt := top 54
abbrev s_l_draw : Stmt := top 55
abbrev s_l_low : Stmt := top 56
abbrev s_l_same : Stmt := top 63
abbrev s_l_word : Stmt := top 65
abbrev s_is_above_nought : Stmt := top 36
abbrev s_over : Stmt := top 39
abbrev s_length_within : Stmt := top 52
abbrev s_l_add : Stmt := top 57
abbrev s_l_sub : Stmt := top 58
abbrev s_l_mul : Stmt := top 59
abbrev s_l_above : Stmt := top 60
abbrev s_l_steps : Stmt := top 68
abbrev s_l_bent : Stmt := top 73
abbrev s_is_stretch : Stmt := top 43
abbrev s_length_at : Stmt := top 46
abbrev s_rise_of : Stmt := top 50
abbrev s_l_goes_on : Stmt := top 61
abbrev s_l_line : Stmt := top 64
abbrev s_goes_on : Stmt := top 47
abbrev s_l_tempo : Stmt := top 62
abbrev s_l_length : Stmt := top 66
abbrev s_l_full : Stmt := top 69
abbrev s_l_twice : Stmt := top 72
abbrev s_is_plain : Stmt := top 49
abbrev s_l_near : Stmt := top 67
abbrev s_is_tempo : Stmt := top 44
abbrev s_refuse_no_tempo : Stmt := top 48
abbrev s_l_bad_tempos : Stmt := top 74
abbrev s_length_of : Stmt := top 45
abbrev s_l_asked : Stmt := top 71
abbrev s_l_full_right : Stmt := top 70
abbrev s_law : Stmt := top 75
structure Txt (K : PySem.W.Frag) (mg : Str → Option Value) : Prop where
  z_ValueError : mg "ValueError" = none
  z_abs : mg "abs" = none
  z_all : mg "all" = none
  z_bool : mg "bool" = none
  z_int : mg "int" = none
  z_isinstance : mg "isinstance" = none
  z_len : mg "len" = none
  z_list : mg "list" = none
  z_range : mg "range" = none
  z_repr : mg "repr" = none
  z_str : mg "str" = none
  z_sum : mg "sum" = none
  z_tuple : mg "tuple" = none
  z_zip : mg "zip" = none
  m_gcd : mg "gcd" = some (.builtin "math.gcd")
  x_NoFraction : XC K mg "NoFraction"
  x_NoStep : XC K mg "NoStep"
  x_NoTempo : XC K mg "NoTempo"
  h_LaneError : HC K mg "LaneError" sub_LaneError_h
  i_ValueError : IsTab K mg (.type "ValueError") sub_ValueError
  i_Full : IT K mg "Full" sub_Full
  i_LaneError : IT K mg "LaneError" sub_LaneError
  i_Leaned : IT K mg "Leaned" sub_Leaned
  i_NoCount : IT K mg "NoCount" sub_NoCount
  i_NoDeed : IT K mg "NoDeed" sub_NoDeed
  i_NoFar : IT K mg "NoFar" sub_NoFar
  i_NoFraction : IT K mg "NoFraction" sub_NoFraction
  i_NoGlue : IT K mg "NoGlue" sub_NoGlue
  i_NoLane : IT K mg "NoLane" sub_NoLane
  i_NoLevel : IT K mg "NoLevel" sub_NoLevel
  i_NoLong : IT K mg "NoLong" sub_NoLong
  i_NoMoment : IT K mg "NoMoment" sub_NoMoment
  i_NoName : IT K mg "NoName" sub_NoName
  i_NoNumber : IT K mg "NoNumber" sub_NoNumber
  i_NoPiece : IT K mg "NoPiece" sub_NoPiece
  i_NoPlace : IT K mg "NoPlace" sub_NoPlace
  i_NoRank : IT K mg "NoRank" sub_NoRank
  i_NoRow : IT K mg "NoRow" sub_NoRow
  i_NoSheet : IT K mg "NoSheet" sub_NoSheet
  i_NoSide : IT K mg "NoSide" sub_NoSide
  i_NoStep : IT K mg "NoStep" sub_NoStep
  i_NoTake : IT K mg "NoTake" sub_NoTake
  i_NoTempo : IT K mg "NoTempo" sub_NoTempo
  i_NoText : IT K mg "NoText" sub_NoText
  i_NoVersion : IT K mg "NoVersion" sub_NoVersion
  i_Taken : IT K mg "Taken" sub_Taken
  i_TooMany : IT K mg "TooMany" sub_TooMany
  i_Used : IT K mg "Used" sub_Used
  g_MOST_STEPS : GInt mg "MOST_STEPS" 200000
  g_MOST_STRETCHES : GInt mg "MOST_STRETCHES" 24
  g_NOUGHT : GTup K mg "NOUGHT" [(.int 0), (.int 1)]
  a_is_whole : FnAt K mg "is_whole" s_is_whole ["thing"]
  a_is_whole_within : FnAt K mg "is_whole_within" s_is_whole_within ["thing", "least", "most"]
  a_is_tuple_of : FnAt K mg "is_tuple_of" s_is_tuple_of ["thing", "many"]
  a_is_fraction : FnAt K mg "is_fraction" s_is_fraction ["thing"]
  a_in_lowest_terms : FnAt K mg "in_lowest_terms" s_in_lowest_terms ["top", "bottom"]
  a_minus : FnAt K mg "minus" s_minus ["one", "other"]
  a_line_of : FnAt K mg "_line_of" s_line_of ["stretch"]
  a_l_pen : FnAt K mg "_law_pen" s_l_pen ["_law_script"]
  a_l_draw : FnAt K mg "_law_draw" s_l_draw ["_law_pen_here", "_law_many"]
  a_l_low : FnAt K mg "_law_low" s_l_low ["_law_top", "_law_bottom"]
  a_l_same : FnAt K mg "_law_same" s_l_same ["_law_found", "_law_due"]
  a_l_word : FnAt K mg "_law_word" s_l_word ["_law_e"]
  a_is_above_nought : FnAt K mg "is_above_nought" s_is_above_nought ["thing"]
  a_over : FnAt K mg "over" s_over ["one", "other"]
  a_length_within : FnAt K mg "_length_within" s_length_within ["line", "step"]
  a_l_add : FnAt K mg "_law_add" s_l_add ["_law_one", "_law_other"]
  a_l_sub : FnAt K mg "_law_sub" s_l_sub ["_law_one", "_law_other"]
  a_l_mul : FnAt K mg "_law_mul" s_l_mul ["_law_one", "_law_other"]
  a_l_above : FnAt K mg "_law_above" s_l_above ["_law_pen_here"]
  a_l_steps : FnAt K mg "_law_steps" s_l_steps ["_law_pen_here", "_law_tempo_here"]
  a_l_bent : FnAt K mg "_law_bent" s_l_bent ["_law_pen_here", "_law_thing"]
  a_is_stretch : FnAt K mg "is_stretch" s_is_stretch ["thing"]
  a_length_at : FnAt K mg "length_at" s_length_at ["tempo", "step"]
  a_rise_of : FnAt K mg "_rise_of" s_rise_of ["stretch"]
  a_l_goes_on : FnAt K mg "_law_goes_on" s_l_goes_on ["_law_one", "_law_other"]
  a_l_line : FnAt K mg "_law_line" s_l_line ["_law_span", "_law_twice_here"]
  a_goes_on : FnAt K mg "goes_on" s_goes_on ["stretch", "behind"]
  a_l_tempo : FnAt K mg "_law_tempo" s_l_tempo ["_law_pen_here", "_law_most"]
  a_l_length : FnAt K mg "_law_length" s_l_length ["_law_tempo_here", "_law_step"]
  a_l_full : FnAt K mg "_law_full" s_l_full ["_law_pen_here"]
  a_l_twice : FnAt K mg "_law_twice" s_l_twice ["_law_pen_here", "_law_tempo_here"]
  a_is_plain : FnAt K mg "_is_plain" s_is_plain ["stretches", "rest"]
  a_l_near : FnAt K mg "_law_near" s_l_near ["_law_pen_here", "_law_tempo_here"]
  a_is_tempo : FnAt K mg "is_tempo" s_is_tempo ["thing"]
  a_refuse_no_tempo : FnAt K mg "_refuse_no_tempo" s_refuse_no_tempo ["thing"]
  a_l_bad_tempos : FnAt K mg "_law_bad_tempos" s_l_bad_tempos ["_law_pen_here", "_law_tempo_here"]
  a_length_of : FnAt K mg "length_of" s_length_of ["tempo", "step"]
  a_l_asked : FnAt K mg "_law_asked" s_l_asked ["_law_tempo_here", "_law_step"]
  a_l_full_right : FnAt K mg "_law_full_right" s_l_full_right ["_law_pen_here"]
  a_law : FnAt K mg "law" s_law ["_law_script"]
theorem sc_is_whole : FnScope ["thing"] ["thing"] (defScope s_is_whole) := ⟨rfl, rfl, rfl, by decide +kernel, rfl, by decide +kernel, by decide +kernel⟩
theorem sc_is_whole_within : FnScope ["thing", "least", "most"] ["thing", "least", "most"] (defScope s_is_whole_within) := ⟨rfl, rfl, rfl, by decide +kernel, rfl, by decide +kernel, by decide +kernel⟩
theorem sc_is_tuple_of : FnScope ["thing", "many"] ["thing", "many"] (defScope s_is_tuple_of) := ⟨rfl, rfl, rfl, by decide +kernel, rfl, by decide +kernel, by decide +kernel⟩
theorem sc_is_fraction : FnScope ["thing", "top", "bottom"] ["thing"] (defScope s_is_fraction) := ⟨rfl, rfl, rfl, by decide +kernel, rfl, by decide +kernel, by decide +kernel⟩
theorem sc_in_lowest_terms : FnScope ["top", "bottom", "shared"] ["top", "bottom"] (defScope s_in_lowest_terms) := ⟨rfl, rfl, rfl, by decide +kernel, rfl, by decide +kernel, by decide +kernel⟩
theorem sc_minus : FnScope ["one", "other", "top", "bottom", "shared"] ["one", "other"] (defScope s_minus) := ⟨rfl, rfl, rfl, by decide +kernel, rfl, by decide +kernel, by decide +kernel⟩
theorem sc_line_of : FnScope ["stretch", "many", "top", "bottom", "last_top", "last_bottom", "even", "rise"] ["stretch"] (defScope s_line_of) := ⟨rfl, rfl, rfl, by decide +kernel, rfl, by decide +kernel, by decide +kernel⟩
theorem sc_l_pen : FnScope ["_law_script"] ["_law_script"] (defScope s_l_pen) := ⟨rfl, rfl, rfl, by decide +kernel, rfl, by decide +kernel, by decide +kernel⟩
theorem sc_l_draw : FnScope ["_law_pen_here", "_law_many", "_law_found", "_law_at", "_law_cell", "_law_number"] ["_law_pen_here", "_law_many"] (defScope s_l_draw) := ⟨rfl, rfl, rfl, by decide +kernel, rfl, by decide +kernel, by decide +kernel⟩
theorem sc_l_low : FnScope ["_law_top", "_law_bottom", "_law_one", "_law_other"] ["_law_top", "_law_bottom"] (defScope s_l_low) := ⟨rfl, rfl, rfl, by decide +kernel, rfl, by decide +kernel, by decide +kernel⟩
theorem sc_l_same : FnScope ["_law_found", "_law_due", "_law_one", "_law_other"] ["_law_found", "_law_due"] (defScope s_l_same) := ⟨rfl, rfl, rfl, by decide +kernel, rfl, by decide +kernel, by decide +kernel⟩
theorem sc_l_word : FnScope ["_law_e", "_law_words", "_law_some"] ["_law_e"] (defScope s_l_word) := ⟨rfl, rfl, rfl, by decide +kernel, rfl, by decide +kernel, by decide +kernel⟩
theorem sc_is_above_nought : FnScope ["thing"] ["thing"] (defScope s_is_above_nought) := ⟨rfl, rfl, rfl, by decide +kernel, rfl, by decide +kernel, by decide +kernel⟩
theorem sc_over : FnScope ["one", "other"] ["one", "other"] (defScope s_over) := ⟨rfl, rfl, rfl, by decide +kernel, rfl, by decide +kernel, by decide +kernel⟩
theorem sc_length_within : FnScope ["line", "step", "even", "rise", "bottom"] ["line", "step"] (defScope s_length_within) := ⟨rfl, rfl, rfl, by decide +kernel, rfl, by decide +kernel, by decide +kernel⟩
theorem sc_l_add : FnScope ["_law_one", "_law_other"] ["_law_one", "_law_other"] (defScope s_l_add) := ⟨rfl, rfl, rfl, by decide +kernel, rfl, by decide +kernel, by decide +kernel⟩
theorem sc_l_sub : FnScope ["_law_one", "_law_other"] ["_law_one", "_law_other"] (defScope s_l_sub) := ⟨rfl, rfl, rfl, by decide +kernel, rfl, by decide +kernel, by decide +kernel⟩
theorem sc_l_mul : FnScope ["_law_one", "_law_other"] ["_law_one", "_law_other"] (defScope s_l_mul) := ⟨rfl, rfl, rfl, by decide +kernel, rfl, by decide +kernel, by decide +kernel⟩
theorem sc_l_above : FnScope ["_law_pen_here", "_law_far"] ["_law_pen_here"] (defScope s_l_above) := ⟨rfl, rfl, rfl, by decide +kernel, rfl, by decide +kernel, by decide +kernel⟩
theorem sc_l_steps : FnScope ["_law_pen_here", "_law_tempo_here", "_law_found", "_law_ahead", "_law_span"] ["_law_pen_here", "_law_tempo_here"] (defScope s_l_steps) := ⟨rfl, rfl, rfl, by decide +kernel, rfl, by decide +kernel, by decide +kernel⟩
theorem sc_l_bent : FnScope ["_law_pen_here", "_law_thing", "_law_at", "_law_some", "_law_way"] ["_law_pen_here", "_law_thing"] (defScope s_l_bent) := ⟨rfl, rfl, rfl, by decide +kernel, rfl, by decide +kernel, by decide +kernel⟩
theorem sc_is_stretch : FnScope ["thing", "many", "first", "last"] ["thing"] (defScope s_is_stretch) := ⟨rfl, rfl, rfl, by decide +kernel, rfl, by decide +kernel, by decide +kernel⟩
theorem sc_length_at : FnScope ["tempo", "step", "stretches", "rest", "ahead", "stretch"] ["tempo", "step"] (defScope s_length_at) := ⟨rfl, rfl, rfl, by decide +kernel, rfl, by decide +kernel, by decide +kernel⟩
theorem sc_rise_of : FnScope ["stretch", "many", "first", "last"] ["stretch"] (defScope s_rise_of) := ⟨rfl, rfl, rfl, by decide +kernel, rfl, by decide +kernel, by decide +kernel⟩
theorem sc_l_goes_on : FnScope ["_law_one", "_law_other", "_law_rise"] ["_law_one", "_law_other"] (defScope s_l_goes_on) := ⟨rfl, rfl, rfl, by decide +kernel, rfl, by decide +kernel, by decide +kernel⟩
theorem sc_l_line : FnScope ["_law_span", "_law_twice_here"] ["_law_span", "_law_twice_here"] (defScope s_l_line) := ⟨rfl, rfl, rfl, by decide +kernel, rfl, by decide +kernel, by decide +kernel⟩
theorem sc_goes_on : FnScope ["stretch", "behind"] ["stretch", "behind"] (defScope s_goes_on) := ⟨rfl, rfl, rfl, by decide +kernel, rfl, by decide +kernel, by decide +kernel⟩
theorem sc_l_tempo : FnScope ["_law_pen_here", "_law_most", "_law_rest", "_law_stretches", "_law_k", "_law_first", "_law_last", "_law_span"] ["_law_pen_here", "_law_most"] (defScope s_l_tempo) := ⟨rfl, rfl, rfl, by decide +kernel, rfl, by decide +kernel, by decide +kernel⟩
theorem sc_l_length : FnScope ["_law_tempo_here", "_law_step", "_law_span"] ["_law_tempo_here", "_law_step"] (defScope s_l_length) := ⟨rfl, rfl, rfl, by decide +kernel, rfl, by decide +kernel, by decide +kernel⟩
theorem sc_l_full : FnScope ["_law_pen_here", "_law_rest", "_law_spans", "_law_k", "_law_many", "_law_first", "_law_last", "_law_some", "_law_j", "_law_one"] ["_law_pen_here"] (defScope s_l_full) := ⟨rfl, rfl, rfl, by decide +kernel, rfl, by decide +kernel, by decide +kernel⟩
theorem sc_l_twice : FnScope ["_law_pen_here", "_law_tempo_here", "_law_spans", "_law_rest"] ["_law_pen_here", "_law_tempo_here"] (defScope s_l_twice) := ⟨rfl, rfl, rfl, by decide +kernel, rfl, by decide +kernel, by decide +kernel⟩
theorem sc_is_plain : FnScope ["stretches", "rest", "k"] ["stretches", "rest"] (defScope s_is_plain) := ⟨rfl, rfl, rfl, by decide +kernel, rfl, by decide +kernel, by decide +kernel⟩
theorem sc_l_near : FnScope ["_law_pen_here", "_law_tempo_here", "_law_way", "_law_many", "_law_first", "_law_last", "_law_other"] ["_law_pen_here", "_law_tempo_here"] (defScope s_l_near) := ⟨rfl, rfl, rfl, by decide +kernel, rfl, by decide +kernel, by decide +kernel⟩
theorem sc_is_tempo : FnScope ["thing", "stretches", "rest", "part"] ["thing"] (defScope s_is_tempo) := ⟨rfl, rfl, rfl, by decide +kernel, rfl, by decide +kernel, by decide +kernel⟩
theorem sc_refuse_no_tempo : FnScope ["thing"] ["thing"] (defScope s_refuse_no_tempo) := ⟨rfl, rfl, rfl, by decide +kernel, rfl, by decide +kernel, by decide +kernel⟩
theorem sc_l_bad_tempos : FnScope ["_law_pen_here", "_law_tempo_here", "_law_spans", "_law_rest", "_law_far", "_law_k", "_law_found", "_law_one"] ["_law_pen_here", "_law_tempo_here"] (defScope s_l_bad_tempos) := ⟨rfl, rfl, rfl, by decide +kernel, rfl, by decide +kernel, by decide +kernel⟩
theorem sc_length_of : FnScope ["tempo", "step"] ["tempo", "step"] (defScope s_length_of) := ⟨rfl, rfl, rfl, by decide +kernel, rfl, by decide +kernel, by decide +kernel⟩
theorem sc_l_asked : FnScope ["_law_tempo_here", "_law_step", "caught"] ["_law_tempo_here", "_law_step"] (defScope s_l_asked) := ⟨rfl, rfl, rfl, by decide +kernel, rfl, by decide +kernel, by decide +kernel⟩
theorem sc_l_full_right : FnScope ["_law_pen_here", "_law_tempo_here", "_law_step"] ["_law_pen_here"] (defScope s_l_full_right) := ⟨rfl, rfl, rfl, by decide +kernel, rfl, by decide +kernel, by decide +kernel⟩
theorem sc_law : FnScope ["_law_script", "_law_pen_here", "_law_tempo_here", "_law_other", "_law_stood", "_law_step", "_law_here", "_law_thing"] ["_law_script"] (defScope s_law) := ⟨rfl, rfl, rfl, by decide +kernel, rfl, by decide +kernel, by decide +kernel⟩
section
variable {P : Program} {w : World} {K : PySem.W.Frag} {mg : Str → Option Value} {base : Heap} (T : Txt K mg)
include T
theorem ok_is_whole : Def P w K mg base "is_whole" ["thing"] 1 1 F_is_whole := by
  exact def_okT (k := 0) T.a_is_whole sc_is_whole fun f cdv A outer s H E tk po hr =>
    (dss_one (ds_ret (de_and (de_isi (pe_callB call_isi (by rfl) T.z_isinstance (by decide +kernel) (pa_cons (de_var (pv 0)) (pa_cons (pe_bltn (v := .ty "int") (by rfl) T.z_int (by decide +kernel) rfl) pa_nil)))) (de_and (de_cmp op_isntAll oIsnt_ok (de_var (pv 0)) de_bl) (de_one (de_cmp op_isntAll oIsnt_ok (de_var (pv 0)) de_bl))))))
theorem ok_is_whole_within : Def P w K mg base "is_whole_within" ["thing", "least", "most"] 1 3 F_is_whole_within := by
  exact def_okT (k := 0) T.a_is_whole_within sc_is_whole_within fun f cdv A outer s H E tk po hr =>
    (dss_one (ds_ret (de_and (de_isi (pe_callB call_isi (by rfl) T.z_isinstance (by decide +kernel) (pa_cons (de_var (pv 0)) (pa_cons (pe_bltn (v := .ty "int") (by rfl) T.z_int (by decide +kernel) rfl) pa_nil)))) (de_and (de_cmp op_isntAll oIsnt_ok (de_var (pv 0)) de_bl) (de_and (de_cmp op_isntAll oIsnt_ok (de_var (pv 0)) de_bl) (de_one (de_chain op_le oLe_ok op_le oLe_ok (de_var (pv 1)) (de_var (pv 0)) (de_var (pv 2)) (pe_chain op_le op_le (de_var (pv 1)) (de_var (pv 0)) (de_var (pv 2))))))))))
theorem ok_is_tuple_of : Def P w K mg base "is_tuple_of" ["thing", "many"] 1 2 F_is_tuple_of := by
  exact def_okT (k := 0) T.a_is_tuple_of sc_is_tuple_of fun f cdv A outer s H E tk po hr =>
    (dss_one (ds_ret (de_and (de_isi (pe_callB call_isi (by rfl) T.z_isinstance (by decide +kernel) (pa_cons (de_var (pv 0)) (pa_cons (pe_bltn (v := .ty "tuple") (by rfl) T.z_tuple (by decide +kernel) rfl) pa_nil)))) (de_one (de_cmp (op_eqD hr.units) oEq_ok (de_callB (pe_callB call_len (by rfl) T.z_len (by decide +kernel) (da_cons (pa_cons (de_var (pv 0)) da_nil))) cLen_ok) (de_var (pv 1)))))))
theorem ok_is_fraction : Def P w K mg base "is_fraction" ["thing"] 1 1 F_is_fraction := by
  exact def_okT (k := 0) T.a_is_fraction sc_is_fraction fun f cdv A outer s H E tk po hr =>
    (dss_cons (ds_if (dt_w (dw_or (dt_not (dt_val (de_isi (pe_callB call_isi (by rfl) T.z_isinstance (by decide +kernel) (pa_cons (de_var (pv 0)) (pa_cons (pe_bltn (v := .ty "tuple") (by rfl) T.z_tuple (by decide +kernel) rfl) pa_nil)))))) (dw_or1 (dt_cmp (op_neD hr.units) oNe_ok oEqG_bl (de_callB (pe_callB call_len (by rfl) T.z_len (by decide +kernel) (da_cons (pa_cons (de_var (pv 0)) da_nil))) cLen_ok) de_int))))
    (dss_one (ds_ret de_bl))
    dss_nil)
    (dss_cons (ds_asg (ps_asg (de_var (pv 0)) (dg_tp (ts := [(.nm 1), (.nm 2)]) rfl (dgs_cons (pgs_cons (dg_nm (pg_name (i := 1) sc_is_fraction.nd rfl (Or.inl rfl))) (dgs_cons (pgs_cons (dg_nm (pg_name (i := 2) sc_is_fraction.nd rfl (Or.inl rfl))) dgs_nil)))))))
    (dss_cons (ds_if (dt_w (dw_or (dt_not (dt_val (de_isi (pe_callB call_isi (by rfl) T.z_isinstance (by decide +kernel) (pa_cons (de_var (pv 1)) (pa_cons (pe_bltn (v := .ty "int") (by rfl) T.z_int (by decide +kernel) rfl) pa_nil)))))) (dw_or1 (dt_not (dt_val (de_isi (pe_callB call_isi (by rfl) T.z_isinstance (by decide +kernel) (pa_cons (de_var (pv 2)) (pa_cons (pe_bltn (v := .ty "int") (by rfl) T.z_int (by decide +kernel) rfl) pa_nil)))))))))
    (dss_one (ds_ret de_bl))
    dss_nil)
    (dss_cons (ds_if (dt_w (dw_or (dt_cmp op_isAll oIs_ok oIsG_bl (de_var (pv 1)) de_bl) (dw_or (dt_cmp op_isAll oIs_ok oIsG_bl (de_var (pv 1)) de_bl) (dw_or1 (dt_cmp op_isAll oIs_ok oIsG_bl (de_var (pv 2)) de_bl)))))
    (dss_one (ds_ret de_bl))
    dss_nil)
    (dss_one (ds_ret (de_or (de_cmp (op_eqD hr.units) oEq_ok (de_var (pv 2)) de_int) (de_one (de_and (de_cmp op_gtB oGt_ok (de_var (pv 2)) de_int) (de_one (de_cmp (op_eqD hr.units) oEq_ok (de_callB (pe_callBfun cr_gcd (by rfl) T.m_gcd (da_cons (pa_cons (de_var (pv 1)) (da_cons (pa_cons (de_var (pv 2)) da_nil))))) cGcd_ok) de_int)))))))))))
theorem ok_in_lowest_terms : Def P w K mg base "in_lowest_terms" ["top", "bottom"] 1 2 F_in_lowest_terms := by
  exact def_okT (k := 0) T.a_in_lowest_terms sc_in_lowest_terms fun f cdv A outer s H E tk po hr =>
    (dss_cons (ds_asg (ps_asg (de_callB (pe_callBfun cr_gcd (by rfl) T.m_gcd (da_cons (pa_cons (de_var (pv 0)) (da_cons (pa_cons (de_var (pv 1)) da_nil))))) cGcd_ok) (dg_nm (pg_name (i := 2) sc_in_lowest_terms.nd rfl (Or.inl rfl)))))
    (dss_cons (ds_if (dt_cmp op_lt oLt_ok oLt_bl (de_var (pv 1)) de_int)
    (dss_one (ds_asg (ps_asg (de_neg (de_var (pv 2))) (dg_nm (pg_name (i := 2) sc_in_lowest_terms.nd rfl (Or.inl rfl))))))
    dss_nil)
    (dss_one (ds_ret (de_tup (pe_tup (da_cons (pa_cons (de_op op_fdivQ oDiv_ok (de_var (pv 0)) (de_var (pv 2))) (da_cons (pa_cons (de_op op_fdivQ oDiv_ok (de_var (pv 1)) (de_var (pv 2))) da_nil))))))))))
theorem ok_minus : Def P w K mg base "minus" ["one", "other"] 1 2 F_minus := by
  exact def_okT (k := 0) T.a_minus sc_minus fun f cdv A outer s H E tk po hr =>
    (dss_cons (ds_asg (ps_asg (de_op op_sub oSub_ok (de_op op_mulAll oMul_ok (de_ix (de_var (pv 0)) de_int) (de_ix (de_var (pv 1)) de_int)) (de_op op_mulAll oMul_ok (de_ix (de_var (pv 1)) de_int) (de_ix (de_var (pv 0)) de_int))) (dg_nm (pg_name (i := 2) sc_minus.nd rfl (Or.inl rfl)))))
    (dss_cons (ds_asg (ps_asg (de_op op_mulAll oMul_ok (de_ix (de_var (pv 0)) de_int) (de_ix (de_var (pv 1)) de_int)) (dg_nm (pg_name (i := 3) sc_minus.nd rfl (Or.inl rfl)))))
    (dss_cons (ds_asg (ps_asg (de_callB (pe_callBfun cr_gcd (by rfl) T.m_gcd (da_cons (pa_cons (de_var (pv 2)) (da_cons (pa_cons (de_var (pv 3)) da_nil))))) cGcd_ok) (dg_nm (pg_name (i := 4) sc_minus.nd rfl (Or.inl rfl)))))
    (dss_one (ds_ret (de_tup (pe_tup (da_cons (pa_cons (de_op op_fdivQ oDiv_ok (de_var (pv 2)) (de_var (pv 4))) (da_cons (pa_cons (de_op op_fdivQ oDiv_ok (de_var (pv 3)) (de_var (pv 4))) da_nil)))))))))))
theorem ok_line_of : Def P w K mg base "_line_of" ["stretch"] 1 1 F_line_of := by
  exact def_okT (k := 0) T.a_line_of sc_line_of fun f cdv A outer s H E tk po hr =>
    (dss_cons (ds_asg (ps_asg (de_var (pv 0)) (dg_tp (ts := [(.nm 1), (.tp [(.nm 2), (.nm 3)]), (.tp [(.nm 4), (.nm 5)])]) rfl (dgs_cons (pgs_cons (dg_nm (pg_name (i := 1) sc_line_of.nd rfl (Or.inl rfl))) (dgs_cons (pgs_cons (dg_tp (ts := [(.nm 2), (.nm 3)]) rfl (dgs_cons (pgs_cons (dg_nm (pg_name (i := 2) sc_line_of.nd rfl (Or.inl rfl))) (dgs_cons (pgs_cons (dg_nm (pg_name (i := 3) sc_line_of.nd rfl (Or.inl rfl))) dgs_nil))))) (dgs_cons (pgs_cons (dg_tp (ts := [(.nm 4), (.nm 5)]) rfl (dgs_cons (pgs_cons (dg_nm (pg_name (i := 4) sc_line_of.nd rfl (Or.inl rfl))) (dgs_cons (pgs_cons (dg_nm (pg_name (i := 5) sc_line_of.nd rfl (Or.inl rfl))) dgs_nil))))) dgs_nil)))))))))
    (dss_cons (ds_asg (ps_asg (de_op op_mulAll oMul_ok (de_op op_mulAll oMul_ok (de_op op_mulAll oMul_ok de_int (de_var (pv 1))) (de_var (pv 2))) (de_var (pv 5))) (dg_nm (pg_name (i := 6) sc_line_of.nd rfl (Or.inl rfl)))))
    (dss_cons (ds_asg (ps_asg (de_op op_sub oSub_ok (de_op op_mulAll oMul_ok (de_var (pv 4)) (de_var (pv 3))) (de_op op_mulAll oMul_ok (de_var (pv 2)) (de_var (pv 5)))) (dg_nm (pg_name (i := 7) sc_line_of.nd rfl (Or.inl rfl)))))
    (dss_one (ds_ret (de_tup (pe_tup (da_cons (pa_cons (de_var (pv 6)) (da_cons (pa_cons (de_var (pv 7)) (da_cons (pa_cons (de_op op_mulAll oMul_ok (de_op op_mulAll oMul_ok (de_op op_mulAll oMul_ok de_int (de_var (pv 1))) (de_var (pv 3))) (de_var (pv 5))) da_nil)))))))))))))
theorem ok_l_pen : Def P w K mg base "_law_pen" ["_law_script"] 1 1 F_l_pen := by
  exact def_okKT (k := 0) T.a_l_pen sc_l_pen fun f cdv A outer s H E tk po hr =>
    (dss_one (ds_ret (de_lstS (pe_lst (da_cons (pa_cons (de_callB (pe_callTy call_list_of (by rfl) T.z_list (by decide +kernel) (da_cons (pa_cons (de_ro (de_var (pv 0)) do_no (do_at de_int)) da_nil))) cList_ok) (da_cons (pa_cons de_int (da_cons (pa_cons de_int da_nil))))))))))
theorem ok_l_draw : Def P w K mg base "_law_draw" ["_law_pen_here", "_law_many"] 1 2 F_l_draw := by
  exact def_okT (k := 0) T.a_l_draw sc_l_draw fun f cdv A outer s H E tk po hr =>
    (dss_cons (ds_if (dt_cmp op_gtB oGt_ok oGt_bl (de_ix (de_var (pv 0)) de_int) de_int)
    (dss_cons (ds_asg (ps_asg (de_op op_mod oMod_ok (de_ix (de_var (pv 0)) de_int) (de_var (pv 1))) (dg_nm (pg_name (i := 2) sc_l_draw.nd rfl (Or.inl rfl)))))
    (dss_cons (ds_sub (ps_asg (de_op op_fdivQ oDiv_ok (de_ix (de_var (pv 0)) de_int) (de_var (pv 1))) (pg_sub (de_var (pv 0)) de_int set_list)))
    (dss_one (ds_ret (de_var (pv 2))))))
    dss_nil)
    (dss_cons (ds_asg (ps_asg (de_ix (de_var (pv 0)) de_int) (dg_nm (pg_name (i := 3) sc_l_draw.nd rfl (Or.inl rfl)))))
    (dss_cons (ds_sub (ps_asg (de_op op_addAll oAdd_ok (de_var (pv 3)) de_int) (pg_sub (de_var (pv 0)) de_int set_list)))
    (dss_cons (ds_asg (ps_asg de_int (dg_nm (pg_name (i := 4) sc_l_draw.nd rfl (Or.inl rfl)))))
    (dss_cons (ds_if (dt_cmp op_gtB oGt_ok oGt_bl (de_callB (pe_callB call_len (by rfl) T.z_len (by decide +kernel) (da_cons (pa_cons (de_ix (de_var (pv 0)) de_int) da_nil))) cLen_ok) de_int)
    (dss_one (ds_asg (ps_asg (de_ix (de_ix (de_var (pv 0)) de_int) (de_op op_mod oMod_ok (de_var (pv 3)) (de_callB (pe_callB call_len (by rfl) T.z_len (by decide +kernel) (da_cons (pa_cons (de_ix (de_var (pv 0)) de_int) da_nil))) cLen_ok))) (dg_nm (pg_name (i := 4) sc_l_draw.nd rfl (Or.inl rfl))))))
    dss_nil)
    (dss_cons (ds_if (dt_w (dw_and (dt_cmp op_lt oLt_ok oLt_bl (de_var (pv 3)) (de_callB (pe_callB call_len (by rfl) T.z_len (by decide +kernel) (da_cons (pa_cons (de_ix (de_var (pv 0)) de_int) da_nil))) cLen_ok)) (dw_and1 (dt_cmp op_ge oGe_ok oGe_bl (de_var (pv 4)) (de_op op_pow oPow_ok de_int de_int)))))
    (dss_cons (ds_sub (ps_asg (de_op op_fdivQ oDiv_ok (de_var (pv 4)) (de_var (pv 1))) (pg_sub (de_var (pv 0)) de_int set_list)))
    (dss_one (ds_ret (de_op op_mod oMod_ok (de_var (pv 4)) (de_var (pv 1))))))
    dss_nil)
    (dss_cons (ds_asg (ps_asg (de_op op_mod oMod_ok (de_op op_mulAll oMul_ok (de_op op_addAll oAdd_ok (de_op op_mod oMod_ok (de_var (pv 4)) de_int) de_int) (de_op op_addAll oAdd_ok (de_op op_addAll oAdd_ok (de_op op_mulAll oMul_ok (de_var (pv 3)) (de_var (pv 3))) (de_op op_mulAll oMul_ok de_int (de_var (pv 3)))) de_int)) de_int) (dg_nm (pg_name (i := 5) sc_l_draw.nd rfl (Or.inl rfl)))))
    (dss_cons (ds_asg (ps_asg (de_op op_mod oMod_ok (de_op op_mulAll oMul_ok (de_op op_mod oMod_ok (de_op op_addAll oAdd_ok (de_op op_pow oPow_ok (de_var (pv 5)) de_int) (de_op op_mulAll oMul_ok de_int (de_var (pv 3)))) de_int) de_int) de_int) (dg_nm (pg_name (i := 5) sc_l_draw.nd rfl (Or.inl rfl)))))
    (dss_cons (ds_if (dt_cmp op_gtB oGt_ok oGt_bl (de_var (pv 1)) (de_op op_pow oPow_ok de_int de_int))
    (dss_one (ds_asg (ps_asg (de_op op_addAll oAdd_ok (de_op op_mulAll oMul_ok (de_var (pv 5)) de_int) (de_op op_mod oMod_ok (de_op op_mulAll oMul_ok (de_op op_mod oMod_ok (de_var (pv 5)) de_int) de_int) de_int)) (dg_nm (pg_name (i := 5) sc_l_draw.nd rfl (Or.inl rfl))))))
    dss_nil)
    (dss_one (ds_ret (de_op op_mod oMod_ok (de_op op_fdivQ oDiv_ok (de_var (pv 5)) de_int) (de_var (pv 1))))))))))))))
theorem ok_l_low : Def P w K mg base "_law_low" ["_law_top", "_law_bottom"] 1 2 F_l_low := by
  exact def_okT (k := 0) T.a_l_low sc_l_low fun f cdv A outer s H E tk po hr =>
    (dss_cons (ds_par (ps_par (i := 2) (j := 3) rfl sc_l_low.nd rfl rfl (by decide) rfl rfl (da_cons (pa_cons (de_callB (pe_callB call_abs (by rfl) T.z_abs (by decide +kernel) (da_cons (pa_cons (de_var (pv 0)) da_nil))) cAbs_ok) (da_cons (pa_cons (de_callB (pe_callB call_abs (by rfl) T.z_abs (by decide +kernel) (da_cons (pa_cons (de_var (pv 1)) da_nil))) cAbs_ok) da_nil)))) (by rfl)))
    (dss_cons (ds_while (fuel := fu_l_low_0) (ps_while po (dt_cmp op_gtB oGt_ok oGt_bl (de_var (pv 3)) de_int)
    (dss_one (ds_par (ps_par (i := 2) (j := 3) rfl sc_l_low.nd rfl rfl (by decide) rfl rfl (da_cons (pa_cons (de_var (pv 3)) (da_cons (pa_cons (de_op op_mod oMod_ok (de_var (pv 2)) (de_var (pv 3))) da_nil)))) (by rfl))))))
    (dss_cons (ds_if (dt_cmp op_lt oLt_ok oLt_bl (de_var (pv 1)) de_int)
    (dss_one (ds_par (ps_par (i := 0) (j := 1) rfl sc_l_low.nd rfl rfl (by decide) rfl rfl (da_cons (pa_cons (de_op op_sub oSub_ok de_int (de_var (pv 0))) (da_cons (pa_cons (de_op op_sub oSub_ok de_int (de_var (pv 1))) da_nil)))) (by rfl))))
    dss_nil)
    (dss_one (ds_ret (de_tup (pe_tup (da_cons (pa_cons (de_op op_fdivQ oDiv_ok (de_var (pv 0)) (de_var (pv 2))) (da_cons (pa_cons (de_op op_fdivQ oDiv_ok (de_var (pv 1)) (de_var (pv 2))) da_nil)))))))))))
theorem rec_l_same : ∀ d : Nat, Def P w K mg base "_law_same" ["_law_found", "_law_due"] (1 + d) 2 (R_l_same d)
  | 0 => def_no T.a_l_same rfl
  | d + 1 => by
    have d_l_same := rec_l_same d
    exact def_okT (k := 1 + d) T.a_l_same sc_l_same fun f cdv A outer s H E tk po hr =>
    (dss_cons (ds_if (dt_val (de_isi2 (pe_callB call_isiT (by rfl) T.z_isinstance (by decide +kernel) (pa_cons (de_var (pv 1)) (pa_cons (pe_tup (pa_cons (pe_bltn (v := .ty "tuple") (by rfl) T.z_tuple (by decide +kernel) rfl) (pa_cons (pe_bltn (v := .ty "list") (by rfl) T.z_list (by decide +kernel) rfl) pa_nil))) pa_nil)))))
    (dss_cons (ds_if (dt_w (dw_or (dt_not (dt_val (de_isi2 (pe_callB call_isiT (by rfl) T.z_isinstance (by decide +kernel) (pa_cons (de_var (pv 0)) (pa_cons (pe_tup (pa_cons (pe_bltn (v := .ty "tuple") (by rfl) T.z_tuple (by decide +kernel) rfl) (pa_cons (pe_bltn (v := .ty "list") (by rfl) T.z_list (by decide +kernel) rfl) pa_nil))) pa_nil)))))) (dw_or1 (dt_cmp (op_neD hr.units) oNe_ok oEqG_bl (de_isi (pe_callB call_isi (by rfl) T.z_isinstance (by decide +kernel) (pa_cons (de_var (pv 0)) (pa_cons (pe_bltn (v := .ty "list") (by rfl) T.z_list (by decide +kernel) rfl) pa_nil)))) (de_isi (pe_callB call_isi (by rfl) T.z_isinstance (by decide +kernel) (pa_cons (de_var (pv 1)) (pa_cons (pe_bltn (v := .ty "list") (by rfl) T.z_list (by decide +kernel) rfl) pa_nil))))))))
    (dss_one (ds_ret de_bl))
    dss_nil)
    (dss_cons (ds_if (dt_cmp (op_neD hr.units) oNe_ok oEqG_bl (de_callB (pe_callB call_len (by rfl) T.z_len (by decide +kernel) (da_cons (pa_cons (de_var (pv 0)) da_nil))) cLen_ok) (de_callB (pe_callB call_len (by rfl) T.z_len (by decide +kernel) (da_cons (pa_cons (de_var (pv 1)) da_nil))) cLen_ok))
    (dss_one (ds_ret de_bl))
    dss_nil)
    (dss_one (ds_ret (de_callB (pe_callB (cr_all rfl) (by rfl) T.z_all (by decide +kernel) (da_cons (pa_cons (de_lc (own' := [("_law_one", 2), ("_law_other", 3)]) (pe_lc (own := [("_law_one", 2), ("_law_other", 3)]) rfl sc_l_same.nd (di_zip (RZ.pi_zipA (by rfl) T.z_zip (da_cons (pa_cons (de_var (pv 0)) (da_cons (pa_cons (de_var (pv 1)) da_nil)))))) (blkOk_by (N := ["_law_found", "_law_due", "_law_one", "_law_other"]) (sc := defScope s_l_same) (by decide +kernel)) (fun _ _ _ _ _ => (dg_tp (ts := [(.nm 2), (.nm 3)]) rfl (dgs_cons (pgs_cons (dg_nm (pg_name (i := 2) sc_l_same.nd rfl (Or.inl rfl))) (dgs_cons (pgs_cons (dg_nm (pg_name (i := 3) sc_l_same.nd rfl (Or.inl rfl))) dgs_nil)))))) (fun _ _ _ _ _ => dts_nil) (fun _ _ _ _ _ => (de_callD d_l_same hr takes0 (by omega) (by rfl) (da_cons (pa_cons (de_var (pv 2)) (da_cons (pa_cons (de_var (pv 3)) da_nil)))) (aLen_cons (aLen_cons aLen_nil))))) (by decide)) da_nil))) cAll_ok)))))
    dss_nil)
    (dss_cons (ds_if (dt_w (dw_or (dt_cmp op_isAll oIs_ok oIsG_bl (de_var (pv 1)) de_non) (dw_or1 (dt_cmp op_isAll oIs_ok oIsG_bl (de_var (pv 0)) de_non))))
    (dss_one (ds_ret (de_and (de_cmp op_isAll oIs_ok (de_var (pv 0)) de_non) (de_one (de_cmp op_isAll oIs_ok (de_var (pv 1)) de_non)))))
    dss_nil)
    (dss_cons (ds_if (dt_w (dw_or (dt_cmp (op_neD hr.units) oNe_ok oEqG_bl (de_isi (pe_callB call_isi (by rfl) T.z_isinstance (by decide +kernel) (pa_cons (de_var (pv 0)) (pa_cons (pe_bltn (v := .ty "bool") (by rfl) T.z_bool (by decide +kernel) rfl) pa_nil)))) (de_isi (pe_callB call_isi (by rfl) T.z_isinstance (by decide +kernel) (pa_cons (de_var (pv 1)) (pa_cons (pe_bltn (v := .ty "bool") (by rfl) T.z_bool (by decide +kernel) rfl) pa_nil))))) (dw_or1 (dt_cmp (op_neD hr.units) oNe_ok oEqG_bl (de_isi (pe_callB call_isi (by rfl) T.z_isinstance (by decide +kernel) (pa_cons (de_var (pv 0)) (pa_cons (pe_bltn (v := .ty "str") (by rfl) T.z_str (by decide +kernel) rfl) pa_nil)))) (de_isi (pe_callB call_isi (by rfl) T.z_isinstance (by decide +kernel) (pa_cons (de_var (pv 1)) (pa_cons (pe_bltn (v := .ty "str") (by rfl) T.z_str (by decide +kernel) rfl) pa_nil))))))))
    (dss_one (ds_ret de_bl))
    dss_nil)
    (dss_cons (ds_if (dt_cmp (op_neD hr.units) oNe_ok oEqG_bl (de_isi (pe_callB call_isi (by rfl) T.z_isinstance (by decide +kernel) (pa_cons (de_var (pv 0)) (pa_cons (pe_bltn (v := .ty "int") (by rfl) T.z_int (by decide +kernel) rfl) pa_nil)))) (de_isi (pe_callB call_isi (by rfl) T.z_isinstance (by decide +kernel) (pa_cons (de_var (pv 1)) (pa_cons (pe_bltn (v := .ty "int") (by rfl) T.z_int (by decide +kernel) rfl) pa_nil)))))
    (dss_one (ds_ret de_bl))
    dss_nil)
    (dss_one (ds_ret (de_cmp (op_eqD hr.units) oEq_ok (de_var (pv 0)) (de_var (pv 1)))))))))
theorem ok_l_same : Def P w K mg base "_law_same" ["_law_found", "_law_due"] 13 2 F_l_same := rec_l_same T 12
theorem ok_l_word : DefW (RoomH 1) P w K mg base "_law_word" ["_law_e"] 1 F_l_word := by
  exact defQ_okT (k := 0) T.a_l_word sc_l_word fun f cdv A outer s H E tk hr =>
    (dss_cons (ds_asg (ps_asg (de_lst (pe_lst (da_cons (pa_cons de_str (da_cons (pa_cons de_str (da_cons (pa_cons de_str (da_cons (pa_cons de_str (da_cons (pa_cons de_str (da_cons (pa_cons de_str (da_cons (pa_cons de_str (da_cons (pa_cons de_str (da_cons (pa_cons de_str (da_cons (pa_cons de_str (da_cons (pa_cons de_str (da_cons (pa_cons de_str da_nil)))))))))))))))))))))))))) (dg_nm (pg_name (i := 1) sc_l_word.nd rfl (Or.inl rfl)))))
    (dss_cons (ds_asg (ps_asg (de_op op_addAll oAdd_ok (de_var (pv 1)) (de_lst (pe_lst (da_cons (pa_cons de_str (da_cons (pa_cons de_str (da_cons (pa_cons de_str (da_cons (pa_cons de_str (da_cons (pa_cons de_str (da_cons (pa_cons de_str (da_cons (pa_cons de_str (da_cons (pa_cons de_str (da_cons (pa_cons de_str (da_cons (pa_cons de_str (da_cons (pa_cons de_str da_nil))))))))))))))))))))))))) (dg_nm (pg_name (i := 1) sc_l_word.nd rfl (Or.inl rfl)))))
    (dss_cons (ds_asg (ps_asg (de_op op_addAll oAdd_ok (de_var (pv 1)) (de_lst (pe_lst (da_cons (pa_cons de_str (da_cons (pa_cons de_str (da_cons (pa_cons de_str (da_cons (pa_cons de_str da_nil))))))))))) (dg_nm (pg_name (i := 1) sc_l_word.nd rfl (Or.inl rfl)))))
    (dss_cons (ds_asg (ps_asg (de_lst (pe_lst (da_cons (pa_cons (de_isxT T.i_Full fun C gC => pe_callB call_isT (by rfl) T.z_isinstance (by decide +kernel) (pa_cons (de_var (pv 0)) (pa_cons (pe_glob (v := .ref C) (by rfl) gC rfl) pa_nil))) (da_cons (pa_cons (de_isxT T.i_Leaned fun C gC => pe_callB call_isT (by rfl) T.z_isinstance (by decide +kernel) (pa_cons (de_var (pv 0)) (pa_cons (pe_glob (v := .ref C) (by rfl) gC rfl) pa_nil))) (da_cons (pa_cons (de_isxT T.i_NoCount fun C gC => pe_callB call_isT (by rfl) T.z_isinstance (by decide +kernel) (pa_cons (de_var (pv 0)) (pa_cons (pe_glob (v := .ref C) (by rfl) gC rfl) pa_nil))) (da_cons (pa_cons (de_isxT T.i_NoDeed fun C gC => pe_callB call_isT (by rfl) T.z_isinstance (by decide +kernel) (pa_cons (de_var (pv 0)) (pa_cons (pe_glob (v := .ref C) (by rfl) gC rfl) pa_nil))) da_nil)))))))))) (dg_nm (pg_name (i := 2) sc_l_word.nd rfl (Or.inl rfl)))))
    (dss_cons (ds_asg (ps_asg (de_op op_addAll oAdd_ok (de_var (pv 2)) (de_lst (pe_lst (da_cons (pa_cons (de_isxT T.i_NoFar fun C gC => pe_callB call_isT (by rfl) T.z_isinstance (by decide +kernel) (pa_cons (de_var (pv 0)) (pa_cons (pe_glob (v := .ref C) (by rfl) gC rfl) pa_nil))) (da_cons (pa_cons (de_isxT T.i_NoFraction fun C gC => pe_callB call_isT (by rfl) T.z_isinstance (by decide +kernel) (pa_cons (de_var (pv 0)) (pa_cons (pe_glob (v := .ref C) (by rfl) gC rfl) pa_nil))) (da_cons (pa_cons (de_isxT T.i_NoGlue fun C gC => pe_callB call_isT (by rfl) T.z_isinstance (by decide +kernel) (pa_cons (de_var (pv 0)) (pa_cons (pe_glob (v := .ref C) (by rfl) gC rfl) pa_nil))) (da_cons (pa_cons (de_isxT T.i_NoLane fun C gC => pe_callB call_isT (by rfl) T.z_isinstance (by decide +kernel) (pa_cons (de_var (pv 0)) (pa_cons (pe_glob (v := .ref C) (by rfl) gC rfl) pa_nil))) da_nil))))))))))) (dg_nm (pg_name (i := 2) sc_l_word.nd rfl (Or.inl rfl)))))
    (dss_cons (ds_asg (ps_asg (de_op op_addAll oAdd_ok (de_var (pv 2)) (de_lst (pe_lst (da_cons (pa_cons (de_isxT T.i_NoLevel fun C gC => pe_callB call_isT (by rfl) T.z_isinstance (by decide +kernel) (pa_cons (de_var (pv 0)) (pa_cons (pe_glob (v := .ref C) (by rfl) gC rfl) pa_nil))) (da_cons (pa_cons (de_isxT T.i_NoLong fun C gC => pe_callB call_isT (by rfl) T.z_isinstance (by decide +kernel) (pa_cons (de_var (pv 0)) (pa_cons (pe_glob (v := .ref C) (by rfl) gC rfl) pa_nil))) (da_cons (pa_cons (de_isxT T.i_NoMoment fun C gC => pe_callB call_isT (by rfl) T.z_isinstance (by decide +kernel) (pa_cons (de_var (pv 0)) (pa_cons (pe_glob (v := .ref C) (by rfl) gC rfl) pa_nil))) (da_cons (pa_cons (de_isxT T.i_NoName fun C gC => pe_callB call_isT (by rfl) T.z_isinstance (by decide +kernel) (pa_cons (de_var (pv 0)) (pa_cons (pe_glob (v := .ref C) (by rfl) gC rfl) pa_nil))) da_nil))))))))))) (dg_nm (pg_name (i := 2) sc_l_word.nd rfl (Or.inl rfl)))))
    (dss_cons (ds_asg (ps_asg (de_op op_addAll oAdd_ok (de_var (pv 2)) (de_lst (pe_lst (da_cons (pa_cons (de_isxT T.i_NoNumber fun C gC => pe_callB call_isT (by rfl) T.z_isinstance (by decide +kernel) (pa_cons (de_var (pv 0)) (pa_cons (pe_glob (v := .ref C) (by rfl) gC rfl) pa_nil))) (da_cons (pa_cons (de_isxT T.i_NoPiece fun C gC => pe_callB call_isT (by rfl) T.z_isinstance (by decide +kernel) (pa_cons (de_var (pv 0)) (pa_cons (pe_glob (v := .ref C) (by rfl) gC rfl) pa_nil))) (da_cons (pa_cons (de_isxT T.i_NoPlace fun C gC => pe_callB call_isT (by rfl) T.z_isinstance (by decide +kernel) (pa_cons (de_var (pv 0)) (pa_cons (pe_glob (v := .ref C) (by rfl) gC rfl) pa_nil))) (da_cons (pa_cons (de_isxT T.i_NoRank fun C gC => pe_callB call_isT (by rfl) T.z_isinstance (by decide +kernel) (pa_cons (de_var (pv 0)) (pa_cons (pe_glob (v := .ref C) (by rfl) gC rfl) pa_nil))) da_nil))))))))))) (dg_nm (pg_name (i := 2) sc_l_word.nd rfl (Or.inl rfl)))))
    (dss_cons (ds_asg (ps_asg (de_op op_addAll oAdd_ok (de_var (pv 2)) (de_lst (pe_lst (da_cons (pa_cons (de_isxT T.i_NoRow fun C gC => pe_callB call_isT (by rfl) T.z_isinstance (by decide +kernel) (pa_cons (de_var (pv 0)) (pa_cons (pe_glob (v := .ref C) (by rfl) gC rfl) pa_nil))) (da_cons (pa_cons (de_isxT T.i_NoSheet fun C gC => pe_callB call_isT (by rfl) T.z_isinstance (by decide +kernel) (pa_cons (de_var (pv 0)) (pa_cons (pe_glob (v := .ref C) (by rfl) gC rfl) pa_nil))) (da_cons (pa_cons (de_isxT T.i_NoSide fun C gC => pe_callB call_isT (by rfl) T.z_isinstance (by decide +kernel) (pa_cons (de_var (pv 0)) (pa_cons (pe_glob (v := .ref C) (by rfl) gC rfl) pa_nil))) (da_cons (pa_cons (de_isxT T.i_NoStep fun C gC => pe_callB call_isT (by rfl) T.z_isinstance (by decide +kernel) (pa_cons (de_var (pv 0)) (pa_cons (pe_glob (v := .ref C) (by rfl) gC rfl) pa_nil))) da_nil))))))))))) (dg_nm (pg_name (i := 2) sc_l_word.nd rfl (Or.inl rfl)))))
    (dss_cons (ds_asg (ps_asg (de_op op_addAll oAdd_ok (de_var (pv 2)) (de_lst (pe_lst (da_cons (pa_cons (de_isxT T.i_NoTake fun C gC => pe_callB call_isT (by rfl) T.z_isinstance (by decide +kernel) (pa_cons (de_var (pv 0)) (pa_cons (pe_glob (v := .ref C) (by rfl) gC rfl) pa_nil))) (da_cons (pa_cons (de_isxT T.i_NoTempo fun C gC => pe_callB call_isT (by rfl) T.z_isinstance (by decide +kernel) (pa_cons (de_var (pv 0)) (pa_cons (pe_glob (v := .ref C) (by rfl) gC rfl) pa_nil))) (da_cons (pa_cons (de_isxT T.i_NoText fun C gC => pe_callB call_isT (by rfl) T.z_isinstance (by decide +kernel) (pa_cons (de_var (pv 0)) (pa_cons (pe_glob (v := .ref C) (by rfl) gC rfl) pa_nil))) (da_cons (pa_cons (de_isxT T.i_NoVersion fun C gC => pe_callB call_isT (by rfl) T.z_isinstance (by decide +kernel) (pa_cons (de_var (pv 0)) (pa_cons (pe_glob (v := .ref C) (by rfl) gC rfl) pa_nil))) da_nil))))))))))) (dg_nm (pg_name (i := 2) sc_l_word.nd rfl (Or.inl rfl)))))
    (dss_cons (ds_asg (ps_asg (de_op op_addAll oAdd_ok (de_var (pv 2)) (de_lst (pe_lst (da_cons (pa_cons (de_isxT T.i_Taken fun C gC => pe_callB call_isT (by rfl) T.z_isinstance (by decide +kernel) (pa_cons (de_var (pv 0)) (pa_cons (pe_glob (v := .ref C) (by rfl) gC rfl) pa_nil))) (da_cons (pa_cons (de_isxT T.i_TooMany fun C gC => pe_callB call_isT (by rfl) T.z_isinstance (by decide +kernel) (pa_cons (de_var (pv 0)) (pa_cons (pe_glob (v := .ref C) (by rfl) gC rfl) pa_nil))) (da_cons (pa_cons (de_isxT T.i_Used fun C gC => pe_callB call_isT (by rfl) T.z_isinstance (by decide +kernel) (pa_cons (de_var (pv 0)) (pa_cons (pe_glob (v := .ref C) (by rfl) gC rfl) pa_nil))) da_nil))))))))) (dg_nm (pg_name (i := 2) sc_l_word.nd rfl (Or.inl rfl)))))
    (dss_cons (ds_if (dt_w (dw_or (dt_cmp (op_neD hr.units) oNe_ok oEqG_bl (de_cnt (pe_bm PySem.F.plainAttrs_list PySem.F.slot_list_count PySem.F.type_list_count mt_bcount (de_var (pv 2)) (pa_cons de_bl pa_nil))) de_int) (dw_or (dt_not (dt_val (de_isxT T.i_LaneError fun C gC => pe_callB call_isT (by rfl) T.z_isinstance (by decide +kernel) (pa_cons (de_var (pv 0)) (pa_cons (pe_glob (v := .ref C) (by rfl) gC rfl) pa_nil))))) (dw_or1 (dt_not (dt_val (de_isxB T.i_ValueError (pe_callB call_isT (by rfl) T.z_isinstance (by decide +kernel) (pa_cons (de_var (pv 0)) (pa_cons (pe_bltn (v := .ty "ValueError") (by rfl) T.z_ValueError (by decide +kernel) rfl) pa_nil))))))))))
    (dss_one (ds_ret de_str))
    dss_nil)
    (dss_one (ds_ret (de_ix (de_var (pv 1)) (de_idx (pe_bm PySem.F.plainAttrs_list PySem.F.slot_list_index PySem.F.type_list_index mt_index (de_var (pv 2)) (pa_cons de_bl pa_nil)))))))))))))))))
theorem ok_is_above_nought : Def P w K mg base "is_above_nought" ["thing"] 2 1 F_is_above_nought := by
  have d_is_fraction := ok_is_fraction T (P := P) (w := w) (base := base)
  exact def_okT (k := 1) T.a_is_above_nought sc_is_above_nought fun f cdv A outer s H E tk po hr =>
    (dss_one (ds_ret (de_and (de_callD d_is_fraction hr tk (by decide) (by rfl) (da_cons (pa_cons (de_var (pv 0)) da_nil)) (aLen_cons aLen_nil)) (de_one (de_cmp op_gtB oGt_ok (de_ix (de_var (pv 0)) de_int) de_int)))))
theorem ok_over : Def P w K mg base "over" ["one", "other"] 2 2 F_over := by
  have d_in_lowest_terms := ok_in_lowest_terms T (P := P) (w := w) (base := base)
  exact def_okT (k := 1) T.a_over sc_over fun f cdv A outer s H E tk po hr =>
    (dss_cons (ds_if (dt_cmp (op_eqD hr.units) oEq_ok oEqG_bl (de_var (pv 1)) (de_gtup T.g_NOUGHT (by rfl)))
    (dss_one (ds_raise rfl tk T.x_NoFraction (by rfl)))
    dss_nil)
    (dss_one (ds_ret (de_callD d_in_lowest_terms hr tk (by decide) (by rfl) (da_cons (pa_cons (de_op op_mulAll oMul_ok (de_ix (de_var (pv 0)) de_int) (de_ix (de_var (pv 1)) de_int)) (da_cons (pa_cons (de_op op_mulAll oMul_ok (de_ix (de_var (pv 0)) de_int) (de_ix (de_var (pv 1)) de_int)) da_nil)))) (aLen_cons (aLen_cons aLen_nil))))))
theorem ok_length_within : Def P w K mg base "_length_within" ["line", "step"] 2 2 F_length_within := by
  have d_in_lowest_terms := ok_in_lowest_terms T (P := P) (w := w) (base := base)
  exact def_okT (k := 1) T.a_length_within sc_length_within fun f cdv A outer s H E tk po hr =>
    (dss_cons (ds_asg (ps_asg (de_var (pv 0)) (dg_tp (ts := [(.nm 2), (.nm 3), (.nm 4)]) rfl (dgs_cons (pgs_cons (dg_nm (pg_name (i := 2) sc_length_within.nd rfl (Or.inl rfl))) (dgs_cons (pgs_cons (dg_nm (pg_name (i := 3) sc_length_within.nd rfl (Or.inl rfl))) (dgs_cons (pgs_cons (dg_nm (pg_name (i := 4) sc_length_within.nd rfl (Or.inl rfl))) dgs_nil)))))))))
    (dss_one (ds_ret (de_callD d_in_lowest_terms hr tk (by decide) (by rfl) (da_cons (pa_cons (de_op op_addAll oAdd_ok (de_var (pv 2)) (de_op op_mulAll oMul_ok (de_op op_addAll oAdd_ok (de_op op_mulAll oMul_ok de_int (de_var (pv 1))) de_int) (de_var (pv 3)))) (da_cons (pa_cons (de_var (pv 4)) da_nil)))) (aLen_cons (aLen_cons aLen_nil))))))
theorem ok_l_add : Def P w K mg base "_law_add" ["_law_one", "_law_other"] 2 2 F_l_add := by
  have d_l_low := ok_l_low T (P := P) (w := w) (base := base)
  exact def_okT (k := 1) T.a_l_add sc_l_add fun f cdv A outer s H E tk po hr =>
    (dss_one (ds_ret (de_callD d_l_low hr tk (by decide) (by rfl) (da_cons (pa_cons (de_op op_addAll oAdd_ok (de_op op_mulAll oMul_ok (de_ix (de_var (pv 0)) de_int) (de_ix (de_var (pv 1)) de_int)) (de_op op_mulAll oMul_ok (de_ix (de_var (pv 1)) de_int) (de_ix (de_var (pv 0)) de_int))) (da_cons (pa_cons (de_op op_mulAll oMul_ok (de_ix (de_var (pv 0)) de_int) (de_ix (de_var (pv 1)) de_int)) da_nil)))) (aLen_cons (aLen_cons aLen_nil)))))
theorem ok_l_sub : Def P w K mg base "_law_sub" ["_law_one", "_law_other"] 2 2 F_l_sub := by
  have d_l_low := ok_l_low T (P := P) (w := w) (base := base)
  exact def_okT (k := 1) T.a_l_sub sc_l_sub fun f cdv A outer s H E tk po hr =>
    (dss_one (ds_ret (de_callD d_l_low hr tk (by decide) (by rfl) (da_cons (pa_cons (de_op op_sub oSub_ok (de_op op_mulAll oMul_ok (de_ix (de_var (pv 0)) de_int) (de_ix (de_var (pv 1)) de_int)) (de_op op_mulAll oMul_ok (de_ix (de_var (pv 1)) de_int) (de_ix (de_var (pv 0)) de_int))) (da_cons (pa_cons (de_op op_mulAll oMul_ok (de_ix (de_var (pv 0)) de_int) (de_ix (de_var (pv 1)) de_int)) da_nil)))) (aLen_cons (aLen_cons aLen_nil)))))
theorem ok_l_mul : Def P w K mg base "_law_mul" ["_law_one", "_law_other"] 2 2 F_l_mul := by
  have d_l_low := ok_l_low T (P := P) (w := w) (base := base)
  exact def_okT (k := 1) T.a_l_mul sc_l_mul fun f cdv A outer s H E tk po hr =>
    (dss_one (ds_ret (de_callD d_l_low hr tk (by decide) (by rfl) (da_cons (pa_cons (de_op op_mulAll oMul_ok (de_ix (de_var (pv 0)) de_int) (de_ix (de_var (pv 1)) de_int)) (da_cons (pa_cons (de_op op_mulAll oMul_ok (de_ix (de_var (pv 0)) de_int) (de_ix (de_var (pv 1)) de_int)) da_nil)))) (aLen_cons (aLen_cons aLen_nil)))))
theorem ok_l_above : Def P w K mg base "_law_above" ["_law_pen_here"] 2 1 F_l_above := by
  have d_l_draw := ok_l_draw T (P := P) (w := w) (base := base)
  have d_l_low := ok_l_low T (P := P) (w := w) (base := base)
  exact def_okT (k := 1) T.a_l_above sc_l_above fun f cdv A outer s H E tk po hr =>
    (dss_cons (ds_asg (ps_asg (de_ix (de_lst (pe_lst (da_cons (pa_cons de_int (da_cons (pa_cons de_int (da_cons (pa_cons de_int (da_cons (pa_cons de_int (da_cons (pa_cons (de_op op_sub oSub_ok (de_op op_pow oPow_ok de_int de_int) de_int) da_nil)))))))))))) (de_callD d_l_draw hr tk (by decide) (by rfl) (da_cons (pa_cons (de_var (pv 0)) (da_cons (pa_cons de_int da_nil)))) (aLen_cons (aLen_cons aLen_nil)))) (dg_nm (pg_name (i := 1) sc_l_above.nd rfl (Or.inl rfl)))))
    (dss_one (ds_ret (de_callD d_l_low hr tk (by decide) (by rfl) (da_cons (pa_cons (de_op op_addAll oAdd_ok de_int (de_callD d_l_draw hr tk (by decide) (by rfl) (da_cons (pa_cons (de_var (pv 0)) (da_cons (pa_cons (de_var (pv 1)) da_nil)))) (aLen_cons (aLen_cons aLen_nil)))) (da_cons (pa_cons (de_op op_addAll oAdd_ok de_int (de_callD d_l_draw hr tk (by decide) (by rfl) (da_cons (pa_cons (de_var (pv 0)) (da_cons (pa_cons (de_var (pv 1)) da_nil)))) (aLen_cons (aLen_cons aLen_nil)))) da_nil)))) (aLen_cons (aLen_cons aLen_nil))))))
theorem ok_l_steps : Def P w K mg base "_law_steps" ["_law_pen_here", "_law_tempo_here"] 2 2 F_l_steps := by
  have d_l_draw := ok_l_draw T (P := P) (w := w) (base := base)
  exact def_okT (k := 1) T.a_l_steps sc_l_steps fun f cdv A outer s H E tk po hr =>
    (dss_cons (ds_par (ps_par (i := 2) (j := 3) rfl sc_l_steps.nd rfl rfl (by decide) rfl rfl (da_cons (pa_cons (de_lst (pe_lst da_nil)) (da_cons (pa_cons de_int da_nil)))) (by rfl)))
    (dss_cons (ds_for (ps_for po rfl (di_seq (de_ix (de_var (pv 1)) de_int)) (dg_nm (pg_name (i := 4) sc_l_steps.nd rfl (Or.inl rfl)))
    (dss_cons (ds_asg (ps_asg (de_op op_addAll oAdd_ok (de_var (pv 2)) (de_lst (pe_lst (da_cons (pa_cons (de_var (pv 3)) (da_cons (pa_cons (de_op op_addAll oAdd_ok (de_var (pv 3)) (de_callD d_l_draw hr tk (by decide) (by rfl) (da_cons (pa_cons (de_var (pv 0)) (da_cons (pa_cons (de_ix (de_var (pv 4)) de_int) da_nil)))) (aLen_cons (aLen_cons aLen_nil)))) (da_cons (pa_cons (de_op op_sub oSub_ok (de_op op_addAll oAdd_ok (de_var (pv 3)) (de_ix (de_var (pv 4)) de_int)) de_int) da_nil))))))))) (dg_nm (pg_name (i := 2) sc_l_steps.nd rfl (Or.inl rfl)))))
    (dss_one (ds_asg (ps_asg (de_op op_addAll oAdd_ok (de_var (pv 3)) (de_ix (de_var (pv 4)) de_int)) (dg_nm (pg_name (i := 3) sc_l_steps.nd rfl (Or.inl rfl)))))))))
    (dss_one (ds_ret (de_op op_addAll oAdd_ok (de_var (pv 2)) (de_lst (pe_lst (da_cons (pa_cons (de_var (pv 3)) (da_cons (pa_cons (de_op op_addAll oAdd_ok (de_var (pv 3)) de_int) (da_cons (pa_cons (de_op op_addAll oAdd_ok (de_var (pv 3)) (de_callD d_l_draw hr tk (by decide) (by rfl) (da_cons (pa_cons (de_var (pv 0)) (da_cons (pa_cons (de_op op_pow oPow_ok de_int de_int) da_nil)))) (aLen_cons (aLen_cons aLen_nil)))) (da_cons (pa_cons (de_op op_sub oSub_ok (de_op op_pow oPow_ok de_int de_int) (de_callD d_l_draw hr tk (by decide) (by rfl) (da_cons (pa_cons (de_var (pv 0)) (da_cons (pa_cons de_int da_nil)))) (aLen_cons (aLen_cons aLen_nil)))) da_nil)))))))))))))))
theorem rec_l_bent : ∀ d : Nat, Def P w K mg base "_law_bent" ["_law_pen_here", "_law_thing"] (2 + d) 2 (R_l_bent d)
  | 0 => def_no T.a_l_bent rfl
  | d + 1 => by
    have d_l_draw := ok_l_draw T (P := P) (w := w) (base := base)
    have d_l_bent := rec_l_bent d
    exact def_okT (k := 2 + d) T.a_l_bent sc_l_bent fun f cdv A outer s H E tk po hr =>
    (dss_cons (ds_if (dt_w (dw_and (dt_val (de_isi (pe_callB call_isi (by rfl) T.z_isinstance (by decide +kernel) (pa_cons (de_var (pv 1)) (pa_cons (pe_bltn (v := .ty "tuple") (by rfl) T.z_tuple (by decide +kernel) rfl) pa_nil))))) (dw_and (dt_cmp (op_neD hr.units) oNe_ok oEqG_bl (de_var (pv 1)) (de_tup (pe_tup da_nil))) (dw_and1 (dt_cmp op_gtB oGt_ok oGt_bl (de_callD d_l_draw hr tk (by omega) (by rfl) (da_cons (pa_cons (de_var (pv 0)) (da_cons (pa_cons de_int da_nil)))) (aLen_cons (aLen_cons aLen_nil))) de_int)))))
    (dss_cons (ds_asg (ps_asg (de_callD d_l_draw hr tk (by omega) (by rfl) (da_cons (pa_cons (de_var (pv 0)) (da_cons (pa_cons (de_callB (pe_callB call_len (by rfl) T.z_len (by decide +kernel) (da_cons (pa_cons (de_var (pv 1)) da_nil))) cLen_ok) da_nil)))) (aLen_cons (aLen_cons aLen_nil))) (dg_nm (pg_name (i := 2) sc_l_bent.nd rfl (Or.inl rfl)))))
    (dss_one (ds_ret (de_op op_addAll oAdd_ok (de_op op_addAll oAdd_ok (de_sl (de_var (pv 1)) do_no (do_at (de_var (pv 2)))) (de_tup (pe_tup (da_cons (pa_cons (de_callD d_l_bent hr tk (by omega) (by rfl) (da_cons (pa_cons (de_var (pv 0)) (da_cons (pa_cons (de_ix (de_var (pv 1)) (de_var (pv 2))) da_nil)))) (aLen_cons (aLen_cons aLen_nil))) da_nil))))) (de_sl (de_var (pv 1)) (do_at (de_op op_addAll oAdd_ok (de_var (pv 2)) de_int)) do_no)))))
    dss_nil)
    (dss_cons (ds_asg (ps_asg (de_lst (pe_lst (da_cons (pa_cons de_non (da_cons (pa_cons de_bl (da_cons (pa_cons de_bl (da_cons (pa_cons (de_neg de_int) (da_cons (pa_cons de_int (da_cons (pa_cons de_int (da_cons (pa_cons de_str (da_cons (pa_cons de_str (da_cons (pa_cons (de_tup (pe_tup da_nil)) (da_cons (pa_cons (de_lst (pe_lst da_nil)) (da_cons (pa_cons de_dct0 (da_cons (pa_cons (de_tup (pe_tup (da_cons (pa_cons de_int (da_cons (pa_cons de_int da_nil)))))) (da_cons (pa_cons (de_tup (pe_tup (da_cons (pa_cons de_int (da_cons (pa_cons de_int da_nil)))))) (da_cons (pa_cons (de_tup (pe_tup (da_cons (pa_cons de_int (da_cons (pa_cons de_int da_nil)))))) (da_cons (pa_cons (de_lst (pe_lst (da_cons (pa_cons de_int (da_cons (pa_cons de_int da_nil)))))) (da_cons (pa_cons (de_tup (pe_tup (da_cons (pa_cons (de_tup (pe_tup (da_cons (pa_cons de_int (da_cons (pa_cons de_int da_nil)))))) da_nil)))) da_nil)))))))))))))))))))))))))))))))))) (dg_nm (pg_name (i := 3) sc_l_bent.nd rfl (Or.inl rfl)))))
    (dss_cons (ds_asg (ps_asg (de_callD d_l_draw hr tk (by omega) (by rfl) (da_cons (pa_cons (de_var (pv 0)) (da_cons (pa_cons de_int da_nil)))) (aLen_cons (aLen_cons aLen_nil))) (dg_nm (pg_name (i := 4) sc_l_bent.nd rfl (Or.inl rfl)))))
    (dss_cons (ds_if (dt_w (dw_and (dt_cmp op_gtB oGt_ok oGt_bl (de_var (pv 4)) de_int) (dw_and1 (dt_val (de_isi (pe_callB call_isi (by rfl) T.z_isinstance (by decide +kernel) (pa_cons (de_var (pv 1)) (pa_cons (pe_bltn (v := .ty "tuple") (by rfl) T.z_tuple (by decide +kernel) rfl) pa_nil))))))))
    (dss_one (ds_asg (ps_asg (de_lst (pe_lst (da_cons (pa_cons (de_callB (pe_callTy call_list_of (by rfl) T.z_list (by decide +kernel) (da_cons (pa_cons (de_var (pv 1)) da_nil))) cList_ok) (da_cons (pa_cons (de_rev (de_var (pv 1))) (da_cons (pa_cons (de_op op_addAll oAdd_ok (de_var (pv 1)) (de_sl (de_var (pv 1)) do_no (do_at de_int))) (da_cons (pa_cons (de_sl (de_var (pv 1)) (do_at de_int) do_no) (da_cons (pa_cons (de_sl (de_var (pv 1)) do_no (do_at (de_neg de_int))) (da_cons (pa_cons (de_tup (pe_tup (da_cons (pa_cons (de_var (pv 1)) da_nil)))) (da_cons (pa_cons (de_op op_addAll oAdd_ok (de_var (pv 1)) (de_var (pv 1))) da_nil)))))))))))))))) (dg_nm (pg_name (i := 3) sc_l_bent.nd rfl (Or.inl rfl))))))
    (dss_one (ds_if (dt_w (dw_and (dt_cmp op_gtB oGt_ok oGt_bl (de_var (pv 4)) de_int) (dw_and1 (dt_val (de_isi (pe_callB call_isi (by rfl) T.z_isinstance (by decide +kernel) (pa_cons (de_var (pv 1)) (pa_cons (pe_bltn (v := .ty "int") (by rfl) T.z_int (by decide +kernel) rfl) pa_nil))))))))
    (dss_one (ds_asg (ps_asg (de_lst (pe_lst (da_cons (pa_cons (de_op op_addAll oAdd_ok (de_var (pv 1)) de_int) (da_cons (pa_cons (de_op op_sub oSub_ok (de_var (pv 1)) de_int) (da_cons (pa_cons (de_op op_sub oSub_ok de_int (de_var (pv 1))) (da_cons (pa_cons (de_op op_mulAll oMul_ok (de_var (pv 1)) de_int) (da_cons (pa_cons (de_op op_addAll oAdd_ok (de_var (pv 1)) de_int) (da_cons (pa_cons (de_callB (pe_callTy call_str_int (by rfl) T.z_str (by decide +kernel) (da_cons (pa_cons (de_var (pv 1)) da_nil))) cStr_ok) (da_cons (pa_cons (de_cmp op_gtB oGt_ok (de_var (pv 1)) de_int) da_nil)))))))))))))))) (dg_nm (pg_name (i := 3) sc_l_bent.nd rfl (Or.inl rfl))))))
    dss_nil)))
    (dss_one (ds_ret (de_ix (de_var (pv 3)) (de_callD d_l_draw hr tk (by omega) (by rfl) (da_cons (pa_cons (de_var (pv 0)) (da_cons (pa_cons (de_callB (pe_callB call_len (by rfl) T.z_len (by decide +kernel) (da_cons (pa_cons (de_var (pv 3)) da_nil))) cLen_ok) da_nil)))) (aLen_cons (aLen_cons aLen_nil))))))))))
theorem ok_l_bent : Def P w K mg base "_law_bent" ["_law_pen_here", "_law_thing"] 14 2 F_l_bent := rec_l_bent T 12
theorem ok_is_stretch : Def P w K mg base "is_stretch" ["thing"] 3 1 F_is_stretch := by
  have d_is_whole_within := ok_is_whole_within T (P := P) (w := w) (base := base)
  have d_is_tuple_of := ok_is_tuple_of T (P := P) (w := w) (base := base)
  have d_is_above_nought := ok_is_above_nought T (P := P) (w := w) (base := base)
  exact def_okT (k := 2) T.a_is_stretch sc_is_stretch fun f cdv A outer s H E tk po hr =>
    (dss_cons (ds_if (dt_not (dt_val (de_callD d_is_tuple_of hr tk (by decide) (by rfl) (da_cons (pa_cons (de_var (pv 0)) (da_cons (pa_cons de_int da_nil)))) (aLen_cons (aLen_cons aLen_nil)))))
    (dss_one (ds_ret de_bl))
    dss_nil)
    (dss_cons (ds_asg (ps_asg (de_var (pv 0)) (dg_tp (ts := [(.nm 1), (.nm 2), (.nm 3)]) rfl (dgs_cons (pgs_cons (dg_nm (pg_name (i := 1) sc_is_stretch.nd rfl (Or.inl rfl))) (dgs_cons (pgs_cons (dg_nm (pg_name (i := 2) sc_is_stretch.nd rfl (Or.inl rfl))) (dgs_cons (pgs_cons (dg_nm (pg_name (i := 3) sc_is_stretch.nd rfl (Or.inl rfl))) dgs_nil)))))))))
    (dss_one (ds_ret (de_and (de_callD d_is_whole_within hr tk (by decide) (by rfl) (da_cons (pa_cons (de_var (pv 1)) (da_cons (pa_cons de_int (da_cons (pa_cons (de_gint T.g_MOST_STEPS (by rfl)) da_nil)))))) (aLen_cons (aLen_cons (aLen_cons aLen_nil)))) (de_and (de_callD d_is_above_nought hr tk (by decide) (by rfl) (da_cons (pa_cons (de_var (pv 2)) da_nil)) (aLen_cons aLen_nil)) (de_one (de_callD d_is_above_nought hr tk (by decide) (by rfl) (da_cons (pa_cons (de_var (pv 3)) da_nil)) (aLen_cons aLen_nil)))))))))
theorem ok_length_at : Def P w K mg base "length_at" ["tempo", "step"] 3 2 F_length_at := by
  have d_line_of := ok_line_of T (P := P) (w := w) (base := base)
  have d_length_within := ok_length_within T (P := P) (w := w) (base := base)
  exact def_okT (k := 2) T.a_length_at sc_length_at fun f cdv A outer s H E tk po hr =>
    (dss_cons (ds_asg (ps_asg (de_var (pv 0)) (dg_tp (ts := [(.nm 2), (.nm 3)]) rfl (dgs_cons (pgs_cons (dg_nm (pg_name (i := 2) sc_length_at.nd rfl (Or.inl rfl))) (dgs_cons (pgs_cons (dg_nm (pg_name (i := 3) sc_length_at.nd rfl (Or.inl rfl))) dgs_nil)))))))
    (dss_cons (ds_asg (ps_asg de_int (dg_nm (pg_name (i := 4) sc_length_at.nd rfl (Or.inl rfl)))))
    (dss_cons (ds_for (ps_for po rfl (di_seq (de_var (pv 2))) (dg_nm (pg_name (i := 5) sc_length_at.nd rfl (Or.inl rfl)))
    (dss_cons (ds_if (dt_cmp op_lt oLt_ok oLt_bl (de_var (pv 1)) (de_op op_addAll oAdd_ok (de_var (pv 4)) (de_ix (de_var (pv 5)) de_int)))
    (dss_one (ds_ret (de_callD d_length_within hr tk (by decide) (by rfl) (da_cons (pa_cons (de_callD d_line_of hr tk (by decide) (by rfl) (da_cons (pa_cons (de_var (pv 5)) da_nil)) (aLen_cons aLen_nil)) (da_cons (pa_cons (de_op op_sub oSub_ok (de_var (pv 1)) (de_var (pv 4))) da_nil)))) (aLen_cons (aLen_cons aLen_nil)))))
    dss_nil)
    (dss_one (ds_aug (ps_aug (i := 4) sc_length_at.nd rfl (Or.inl rfl) (de_ix (de_var (pv 5)) de_int) ip_add))))))
    (dss_one (ds_ret (de_var (pv 3)))))))
theorem ok_rise_of : Def P w K mg base "_rise_of" ["stretch"] 3 1 F_rise_of := by
  have d_minus := ok_minus T (P := P) (w := w) (base := base)
  have d_over := ok_over T (P := P) (w := w) (base := base)
  exact def_okT (k := 2) T.a_rise_of sc_rise_of fun f cdv A outer s H E tk po hr =>
    (dss_cons (ds_asg (ps_asg (de_var (pv 0)) (dg_tp (ts := [(.nm 1), (.nm 2), (.nm 3)]) rfl (dgs_cons (pgs_cons (dg_nm (pg_name (i := 1) sc_rise_of.nd rfl (Or.inl rfl))) (dgs_cons (pgs_cons (dg_nm (pg_name (i := 2) sc_rise_of.nd rfl (Or.inl rfl))) (dgs_cons (pgs_cons (dg_nm (pg_name (i := 3) sc_rise_of.nd rfl (Or.inl rfl))) dgs_nil)))))))))
    (dss_one (ds_ret (de_callD d_over hr tk (by decide) (by rfl) (da_cons (pa_cons (de_callD d_minus hr tk (by decide) (by rfl) (da_cons (pa_cons (de_var (pv 3)) (da_cons (pa_cons (de_var (pv 2)) da_nil)))) (aLen_cons (aLen_cons aLen_nil))) (da_cons (pa_cons (de_tup (pe_tup (da_cons (pa_cons (de_var (pv 1)) (da_cons (pa_cons de_int da_nil)))))) da_nil)))) (aLen_cons (aLen_cons aLen_nil))))))
theorem ok_l_goes_on : Def P w K mg base "_law_goes_on" ["_law_one", "_law_other"] 3 2 F_l_goes_on := by
  have d_l_sub := ok_l_sub T (P := P) (w := w) (base := base)
  have d_l_mul := ok_l_mul T (P := P) (w := w) (base := base)
  exact def_okT (k := 2) T.a_l_goes_on sc_l_goes_on fun f cdv A outer s H E tk po hr =>
    (dss_cons (ds_asg (ps_asg (de_callD d_l_mul hr tk (by decide) (by rfl) (da_cons (pa_cons (de_callD d_l_sub hr tk (by decide) (by rfl) (da_cons (pa_cons (de_ix (de_var (pv 0)) de_int) (da_cons (pa_cons (de_ix (de_var (pv 0)) de_int) da_nil)))) (aLen_cons (aLen_cons aLen_nil))) (da_cons (pa_cons (de_tup (pe_tup (da_cons (pa_cons de_int (da_cons (pa_cons (de_ix (de_var (pv 0)) de_int) da_nil)))))) da_nil)))) (aLen_cons (aLen_cons aLen_nil))) (dg_nm (pg_name (i := 2) sc_l_goes_on.nd rfl (Or.inl rfl)))))
    (dss_one (ds_ret (de_and (de_cmp (op_eqD hr.units) oEq_ok (de_ix (de_var (pv 0)) de_int) (de_ix (de_var (pv 1)) de_int)) (de_one (de_cmp (op_eqD hr.units) oEq_ok (de_var (pv 2)) (de_callD d_l_mul hr tk (by decide) (by rfl) (da_cons (pa_cons (de_callD d_l_sub hr tk (by decide) (by rfl) (da_cons (pa_cons (de_ix (de_var (pv 1)) de_int) (da_cons (pa_cons (de_ix (de_var (pv 1)) de_int) da_nil)))) (aLen_cons (aLen_cons aLen_nil))) (da_cons (pa_cons (de_tup (pe_tup (da_cons (pa_cons de_int (da_cons (pa_cons (de_ix (de_var (pv 1)) de_int) da_nil)))))) da_nil)))) (aLen_cons (aLen_cons aLen_nil)))))))))
theorem ok_l_line : Def P w K mg base "_law_line" ["_law_span", "_law_twice_here"] 3 2 F_l_line := by
  have d_l_low := ok_l_low T (P := P) (w := w) (base := base)
  have d_l_add := ok_l_add T (P := P) (w := w) (base := base)
  have d_l_sub := ok_l_sub T (P := P) (w := w) (base := base)
  have d_l_mul := ok_l_mul T (P := P) (w := w) (base := base)
  exact def_okT (k := 2) T.a_l_line sc_l_line fun f cdv A outer s H E tk po hr =>
    (dss_one (ds_ret (de_callD d_l_add hr tk (by decide) (by rfl) (da_cons (pa_cons (de_ix (de_var (pv 0)) de_int) (da_cons (pa_cons (de_callD d_l_mul hr tk (by decide) (by rfl) (da_cons (pa_cons (de_callD d_l_sub hr tk (by decide) (by rfl) (da_cons (pa_cons (de_ix (de_var (pv 0)) de_int) (da_cons (pa_cons (de_ix (de_var (pv 0)) de_int) da_nil)))) (aLen_cons (aLen_cons aLen_nil))) (da_cons (pa_cons (de_callD d_l_low hr tk (by decide) (by rfl) (da_cons (pa_cons (de_var (pv 1)) (da_cons (pa_cons (de_op op_mulAll oMul_ok de_int (de_ix (de_var (pv 0)) de_int)) da_nil)))) (aLen_cons (aLen_cons aLen_nil))) da_nil)))) (aLen_cons (aLen_cons aLen_nil))) da_nil)))) (aLen_cons (aLen_cons aLen_nil)))))
theorem ok_goes_on : Def P w K mg base "goes_on" ["stretch", "behind"] 4 2 F_goes_on := by
  have d_rise_of := ok_rise_of T (P := P) (w := w) (base := base)
  exact def_okT (k := 3) T.a_goes_on sc_goes_on fun f cdv A outer s H E tk po hr =>
    (dss_one (ds_ret (de_and (de_cmp (op_eqD hr.units) oEq_ok (de_ix (de_var (pv 0)) de_int) (de_ix (de_var (pv 1)) de_int)) (de_one (de_cmp (op_eqD hr.units) oEq_ok (de_callD d_rise_of hr tk (by decide) (by rfl) (da_cons (pa_cons (de_var (pv 0)) da_nil)) (aLen_cons aLen_nil)) (de_callD d_rise_of hr tk (by decide) (by rfl) (da_cons (pa_cons (de_var (pv 1)) da_nil)) (aLen_cons aLen_nil)))))))
theorem ok_l_tempo : Def P w K mg base "_law_tempo" ["_law_pen_here", "_law_most"] 4 2 F_l_tempo := by
  have d_l_draw := ok_l_draw T (P := P) (w := w) (base := base)
  have d_l_above := ok_l_above T (P := P) (w := w) (base := base)
  have d_l_goes_on := ok_l_goes_on T (P := P) (w := w) (base := base)
  exact def_okT (k := 3) T.a_l_tempo sc_l_tempo fun f cdv A outer s H E tk po hr =>
    (dss_cons (ds_asg (ps_asg (de_callD d_l_above hr tk (by decide) (by rfl) (da_cons (pa_cons (de_var (pv 0)) da_nil)) (aLen_cons aLen_nil)) (dg_nm (pg_name (i := 2) sc_l_tempo.nd rfl (Or.inl rfl)))))
    (dss_cons (ds_asg (ps_asg (de_lstS (pe_lst da_nil)) (dg_nm (pg_name (i := 3) sc_l_tempo.nd rfl (Or.inl rfl)))))
    (dss_cons (ds_for (ps_for po rfl (di_rng1 (pi_range1 (by rfl) T.z_range (da_cons (pa_cons (de_callD d_l_draw hr tk (by decide) (by rfl) (da_cons (pa_cons (de_var (pv 0)) (da_cons (pa_cons (de_op op_addAll oAdd_ok (de_var (pv 1)) de_int) da_nil)))) (aLen_cons (aLen_cons aLen_nil))) da_nil))) (aLen_cons aLen_nil)) (dg_nm (pg_name (i := 4) sc_l_tempo.nd rfl (Or.inl rfl)))
    (dss_cons (ds_asg (ps_asg (de_callD d_l_above hr tk (by decide) (by rfl) (da_cons (pa_cons (de_var (pv 0)) da_nil)) (aLen_cons aLen_nil)) (dg_nm (pg_name (i := 5) sc_l_tempo.nd rfl (Or.inl rfl)))))
    (dss_cons (ds_if (dt_w (dw_and (dt_cmp (op_neD hr.units) oNe_ok oEqG_bl (de_var (pv 3)) (de_lst (pe_lst da_nil))) (dw_and1 (dt_cmp (op_eqD hr.units) oEq_ok oEqG_bl (de_callD d_l_draw hr tk (by decide) (by rfl) (da_cons (pa_cons (de_var (pv 0)) (da_cons (pa_cons de_int da_nil)))) (aLen_cons (aLen_cons aLen_nil))) de_int))))
    (dss_one (ds_asg (ps_asg (de_ix (de_ix (de_var (pv 3)) (de_neg de_int)) de_int) (dg_nm (pg_name (i := 5) sc_l_tempo.nd rfl (Or.inl rfl))))))
    dss_nil)
    (dss_cons (ds_asg (ps_asg (de_ix (de_lst (pe_lst (da_cons (pa_cons (de_var (pv 5)) (da_cons (pa_cons (de_callD d_l_above hr tk (by decide) (by rfl) (da_cons (pa_cons (de_var (pv 0)) da_nil)) (aLen_cons aLen_nil)) (da_cons (pa_cons (de_var (pv 2)) da_nil)))))))) (de_callD d_l_draw hr tk (by decide) (by rfl) (da_cons (pa_cons (de_var (pv 0)) (da_cons (pa_cons de_int da_nil)))) (aLen_cons (aLen_cons aLen_nil)))) (dg_nm (pg_name (i := 6) sc_l_tempo.nd rfl (Or.inl rfl)))))
    (dss_cons (ds_asg (ps_asg (de_tup (pe_tup (da_cons (pa_cons (de_op op_addAll oAdd_ok de_int (de_callD d_l_draw hr tk (by decide) (by rfl) (da_cons (pa_cons (de_var (pv 0)) (da_cons (pa_cons (de_ix (de_lst (pe_lst (da_cons (pa_cons de_int (da_cons (pa_cons de_int (da_cons (pa_cons de_int da_nil)))))))) (de_callD d_l_draw hr tk (by decide) (by rfl) (da_cons (pa_cons (de_var (pv 0)) (da_cons (pa_cons de_int da_nil)))) (aLen_cons (aLen_cons aLen_nil)))) da_nil)))) (aLen_cons (aLen_cons aLen_nil)))) (da_cons (pa_cons (de_var (pv 5)) (da_cons (pa_cons (de_var (pv 6)) da_nil)))))))) (dg_nm (pg_name (i := 7) sc_l_tempo.nd rfl (Or.inl rfl)))))
    (dss_one (ds_if (dt_w (dw_or (dt_cmp (op_eqD hr.units) oEq_ok oEqG_bl (de_var (pv 3)) (de_lst (pe_lst da_nil))) (dw_or1 (dt_not (dt_val (de_callD d_l_goes_on hr tk (by decide) (by rfl) (da_cons (pa_cons (de_ix (de_var (pv 3)) (de_neg de_int)) (da_cons (pa_cons (de_var (pv 7)) da_nil)))) (aLen_cons (aLen_cons aLen_nil))))))))
    (dss_one (ds_expr (ps_expr (de_app (pe_bm PySem.F.plainAttrs_list PySem.F.slot_list_append PySem.F.type_list_append mt_append (de_var (pv 3)) (pa_cons (de_var (pv 7)) pa_nil))))))
    dss_nil))))))))
    (dss_cons (ds_while (fuel := fu_l_tempo_0) (ps_while po (dt_w (dw_and (dt_cmp (op_neD hr.units) oNe_ok oEqG_bl (de_var (pv 3)) (de_lst (pe_lst da_nil))) (dw_and1 (dt_cmp (op_eqD hr.units) oEq_ok oEqG_bl (de_sl (de_ix (de_var (pv 3)) (de_neg de_int)) (do_at de_int) do_no) (de_tup (pe_tup (da_cons (pa_cons (de_var (pv 2)) (da_cons (pa_cons (de_var (pv 2)) da_nil))))))))))
    (dss_one (ds_expr (ps_expr (de_pop (pe_bm0 PySem.F.plainAttrs_list PySem.F.slot_list_pop PySem.F.type_list_pop mt_pop (de_var (pv 3)))))))))
    (dss_one (ds_ret (de_tup (pe_tup (da_cons (pa_cons (de_callB (pe_callTy call_tuple_of (by rfl) T.z_tuple (by decide +kernel) (da_cons (pa_cons (de_var (pv 3)) da_nil))) cTuple_ok) (da_cons (pa_cons (de_var (pv 2)) da_nil))))))))))))
theorem ok_l_length : Def P w K mg base "_law_length" ["_law_tempo_here", "_law_step"] 4 2 F_l_length := by
  have d_l_line := ok_l_line T (P := P) (w := w) (base := base)
  exact def_okT (k := 3) T.a_l_length sc_l_length fun f cdv A outer s H E tk po hr =>
    (dss_cons (ds_for (ps_for po rfl (di_seq (de_ix (de_var (pv 0)) de_int)) (dg_nm (pg_name (i := 2) sc_l_length.nd rfl (Or.inl rfl)))
    (dss_cons (ds_if (dt_cmp op_lt oLt_ok oLt_bl (de_var (pv 1)) (de_ix (de_var (pv 2)) de_int))
    (dss_one (ds_ret (de_callD d_l_line hr tk (by decide) (by rfl) (da_cons (pa_cons (de_var (pv 2)) (da_cons (pa_cons (de_op op_addAll oAdd_ok (de_op op_mulAll oMul_ok de_int (de_var (pv 1))) de_int) da_nil)))) (aLen_cons (aLen_cons aLen_nil)))))
    dss_nil)
    (dss_one (ds_asg (ps_asg (de_op op_sub oSub_ok (de_var (pv 1)) (de_ix (de_var (pv 2)) de_int)) (dg_nm (pg_name (i := 1) sc_l_length.nd rfl (Or.inl rfl)))))))))
    (dss_one (ds_ret (de_ix (de_var (pv 0)) de_int))))
theorem ok_l_full : Def P w K mg base "_law_full" ["_law_pen_here"] 4 1 F_l_full := by
  have d_l_add := ok_l_add T (P := P) (w := w) (base := base)
  have d_l_above := ok_l_above T (P := P) (w := w) (base := base)
  have d_l_goes_on := ok_l_goes_on T (P := P) (w := w) (base := base)
  exact def_okT (k := 3) T.a_l_full sc_l_full fun f cdv A outer s H E tk po hr =>
    (dss_cons (ds_asg (ps_asg (de_tup (pe_tup (da_cons (pa_cons (de_callD d_l_above hr tk (by decide) (by rfl) (da_cons (pa_cons (de_var (pv 0)) da_nil)) (aLen_cons aLen_nil)) (da_cons (pa_cons (de_lstS (pe_lst da_nil)) da_nil)))))) (dg_tp (ts := [(.nm 1), (.nm 2)]) rfl (dgs_cons (pgs_cons (dg_nm (pg_name (i := 1) sc_l_full.nd rfl (Or.inr rfl))) (dgs_cons (pgs_cons (dg_nm (pg_name (i := 2) sc_l_full.nd rfl (Or.inr rfl))) dgs_nil)))))))
    (dss_cons (ds_for (ps_for po rfl (di_rng1 (pi_range1 (by rfl) T.z_range (da_cons (pa_cons de_int da_nil))) (aLen_cons aLen_nil)) (dg_nm (pg_name (i := 3) sc_l_full.nd rfl (Or.inl rfl)))
    (dss_cons (ds_asg (ps_asg (de_tup (pe_tup (da_cons (pa_cons (de_ix (de_lst (pe_lst (da_cons (pa_cons de_int (da_cons (pa_cons de_int da_nil)))))) (de_callB (pe_callTy call_int1 (by rfl) T.z_int (by decide +kernel) (da_cons (pa_cons (de_cmp (op_eqD hr.units) oEq_ok (de_var (pv 3)) de_int) da_nil))) cInt_ok)) (da_cons (pa_cons (de_callD d_l_above hr tk (by decide) (by rfl) (da_cons (pa_cons (de_var (pv 0)) da_nil)) (aLen_cons aLen_nil)) (da_cons (pa_cons (de_callD d_l_above hr tk (by decide) (by rfl) (da_cons (pa_cons (de_var (pv 0)) da_nil)) (aLen_cons aLen_nil)) da_nil)))))))) (dg_tp (ts := [(.nm 4), (.nm 5), (.nm 6)]) rfl (dgs_cons (pgs_cons (dg_nm (pg_name (i := 4) sc_l_full.nd rfl (Or.inr rfl))) (dgs_cons (pgs_cons (dg_nm (pg_name (i := 5) sc_l_full.nd rfl (Or.inr rfl))) (dgs_cons (pgs_cons (dg_nm (pg_name (i := 6) sc_l_full.nd rfl (Or.inr rfl))) dgs_nil)))))))))
    (dss_cons (ds_setLc (own' := [("_law_j", 8)]) (ps_setLc (own := [("_law_j", 8)]) (i := 7) rfl sc_l_full.nd rfl rfl (sw_true rfl rfl rfl (by decide +kernel)) (di_rng1 (pi_range1 (by rfl) T.z_range (da_cons (pa_cons de_int da_nil))) (aLen_cons aLen_nil)) (blkOk_by (N := ["_law_pen_here", "_law_rest", "_law_spans", "_law_k", "_law_many", "_law_first", "_law_last", "_law_some", "_law_j", "_law_one"]) (sc := defScope s_l_full) (by decide +kernel)) (fun _ _ _ _ _ => (dg_nm (pg_name (i := 8) sc_l_full.nd rfl (Or.inl rfl)))) (fun _ _ _ _ _ => dts_nil) (fun _ _ _ _ _ => (de_tup (pe_tup (da_cons (pa_cons (de_var (pv 4)) (da_cons (pa_cons (de_var (pv 5)) (da_cons (pa_cons (de_callD d_l_add hr takes0 (by decide) (by rfl) (da_cons (pa_cons (de_var (pv 6)) (da_cons (pa_cons (de_tup (pe_tup (da_cons (pa_cons (de_var (pv 8)) (da_cons (pa_cons de_int da_nil)))))) da_nil)))) (aLen_cons (aLen_cons aLen_nil))) da_nil)))))))))) (by decide))
    (dss_cons (ds_setLc (own' := [("_law_one", 9)]) (ps_setLc (own := [("_law_one", 9)]) (i := 7) rfl sc_l_full.nd rfl rfl (sw_true rfl rfl rfl (by decide +kernel)) (di_seq (de_var (pv 7))) (blkOk_by (N := ["_law_pen_here", "_law_rest", "_law_spans", "_law_k", "_law_many", "_law_first", "_law_last", "_law_some", "_law_j", "_law_one"]) (sc := defScope s_l_full) (by decide +kernel)) (fun _ _ _ _ _ => (dg_nm (pg_name (i := 9) sc_l_full.nd rfl (Or.inl rfl)))) (fun _ _ _ _ _ => (dts_one (dt_cmp (op_neD hr.units) oNe_ok oEqG_bl (de_sl (de_var (pv 9)) (do_at de_int) do_no) (de_tup (pe_tup (da_cons (pa_cons (de_var (pv 1)) (da_cons (pa_cons (de_var (pv 1)) da_nil))))))))) (fun _ _ _ _ _ => (de_var (pv 9)))) (by decide))
    (dss_cons (ds_setLc (own' := [("_law_one", 9)]) (ps_setLc (own := [("_law_one", 9)]) (i := 7) rfl sc_l_full.nd rfl rfl (sw_true rfl rfl rfl (by decide +kernel)) (di_seq (de_var (pv 7))) (blkOk_by (N := ["_law_pen_here", "_law_rest", "_law_spans", "_law_k", "_law_many", "_law_first", "_law_last", "_law_some", "_law_j", "_law_one"]) (sc := defScope s_l_full) (by decide +kernel)) (fun _ _ _ _ _ => (dg_nm (pg_name (i := 9) sc_l_full.nd rfl (Or.inl rfl)))) (fun _ _ _ _ _ => (dts_one (dt_w (dw_or (dt_cmp (op_eqD hr.units) oEq_ok oEqG_bl (de_var (pv 2)) (de_lst (pe_lst da_nil))) (dw_or1 (dt_not (dt_val (de_callD d_l_goes_on hr takes0 (by decide) (by rfl) (da_cons (pa_cons (de_ix (de_var (pv 2)) (de_neg de_int)) (da_cons (pa_cons (de_var (pv 9)) da_nil)))) (aLen_cons (aLen_cons aLen_nil)))))))))) (fun _ _ _ _ _ => (de_var (pv 9)))) (by decide))
    (dss_one (ds_expr (ps_expr (de_app (pe_bm PySem.F.plainAttrs_list PySem.F.slot_list_append PySem.F.type_list_append mt_append (de_var (pv 2)) (pa_cons (de_ix (de_var (pv 7)) de_int) pa_nil))))))))))))
    (dss_one (ds_ret (de_tup (pe_tup (da_cons (pa_cons (de_callB (pe_callTy call_tuple_of (by rfl) T.z_tuple (by decide +kernel) (da_cons (pa_cons (de_var (pv 2)) da_nil))) cTuple_ok) (da_cons (pa_cons (de_var (pv 1)) da_nil))))))))))
theorem ok_l_twice : Def P w K mg base "_law_twice" ["_law_pen_here", "_law_tempo_here"] 4 2 F_l_twice := by
  have d_l_draw := ok_l_draw T (P := P) (w := w) (base := base)
  have d_l_goes_on := ok_l_goes_on T (P := P) (w := w) (base := base)
  exact def_okT (k := 3) T.a_l_twice sc_l_twice fun f cdv A outer s H E tk po hr =>
    (dss_cons (ds_asg (ps_asg (de_var (pv 1)) (dg_tp (ts := [(.nm 2), (.nm 3)]) rfl (dgs_cons (pgs_cons (dg_nm (pg_name (i := 2) sc_l_twice.nd rfl (Or.inl rfl))) (dgs_cons (pgs_cons (dg_nm (pg_name (i := 3) sc_l_twice.nd rfl (Or.inl rfl))) dgs_nil)))))))
    (dss_cons (ds_if (dt_w (dw_or (dt_cmp op_lt oLt_ok oLt_bl (de_callB (pe_callB call_len (by rfl) T.z_len (by decide +kernel) (da_cons (pa_cons (de_var (pv 2)) da_nil))) cLen_ok) de_int) (dw_or (dt_cmp (op_eqD hr.units) oEq_ok oEqG_bl (de_sl (de_ix (de_var (pv 2)) de_int) (do_at de_int) do_no) (de_tup (pe_tup (da_cons (pa_cons (de_var (pv 3)) (da_cons (pa_cons (de_var (pv 3)) da_nil))))))) (dw_or (dt_val (de_callD d_l_goes_on hr tk (by decide) (by rfl) (da_cons (pa_cons (de_ix (de_var (pv 2)) (de_neg de_int)) (da_cons (pa_cons (de_ix (de_var (pv 2)) de_int) da_nil)))) (aLen_cons (aLen_cons aLen_nil)))) (dw_or1 (dt_cmp (op_eqD hr.units) oEq_ok oEqG_bl (de_callD d_l_draw hr tk (by decide) (by rfl) (da_cons (pa_cons (de_var (pv 0)) (da_cons (pa_cons de_int da_nil)))) (aLen_cons (aLen_cons aLen_nil))) de_int))))))
    (dss_one (ds_ret (de_var (pv 1))))
    dss_nil)
    (dss_one (ds_ret (de_tup (pe_tup (da_cons (pa_cons (de_op op_addAll oAdd_ok (de_var (pv 2)) (de_sl (de_var (pv 2)) do_no (do_at de_int))) (da_cons (pa_cons (de_var (pv 3)) da_nil))))))))))
theorem ok_is_plain : Def P w K mg base "_is_plain" ["stretches", "rest"] 5 2 F_is_plain := by
  have d_goes_on := ok_goes_on T (P := P) (w := w) (base := base)
  exact def_okT (k := 4) T.a_is_plain sc_is_plain fun f cdv A outer s H E tk po hr =>
    (dss_cons (ds_for (ps_for po rfl (di_rng2 (pi_range2 (by rfl) T.z_range (da_cons (pa_cons de_int (da_cons (pa_cons (de_callB (pe_callB call_len (by rfl) T.z_len (by decide +kernel) (da_cons (pa_cons (de_var (pv 0)) da_nil))) cLen_ok) da_nil))))) (aLen_cons (aLen_cons aLen_nil))) (dg_nm (pg_name (i := 2) sc_is_plain.nd rfl (Or.inl rfl)))
    (dss_one (ds_if (dt_val (de_callD d_goes_on hr tk (by decide) (by rfl) (da_cons (pa_cons (de_ix (de_var (pv 0)) (de_op op_sub oSub_ok (de_var (pv 2)) de_int)) (da_cons (pa_cons (de_ix (de_var (pv 0)) (de_var (pv 2))) da_nil)))) (aLen_cons (aLen_cons aLen_nil))))
    (dss_one (ds_ret de_bl))
    dss_nil))))
    (dss_one (ds_ret (de_or (de_not (de_var (pv 0))) (de_one (de_cmp (op_neD hr.units) oNe_ok (de_sl (de_ix (de_var (pv 0)) (de_neg de_int)) (do_at de_int) do_no) (de_tup (pe_tup (da_cons (pa_cons (de_var (pv 1)) (da_cons (pa_cons (de_var (pv 1)) da_nil))))))))))))
theorem ok_l_near : Def P w K mg base "_law_near" ["_law_pen_here", "_law_tempo_here"] 5 2 F_l_near := by
  have d_l_draw := ok_l_draw T (P := P) (w := w) (base := base)
  have d_l_add := ok_l_add T (P := P) (w := w) (base := base)
  have d_l_goes_on := ok_l_goes_on T (P := P) (w := w) (base := base)
  have d_l_tempo := ok_l_tempo T (P := P) (w := w) (base := base)
  exact def_okT (k := 4) T.a_l_near sc_l_near fun f cdv A outer s H E tk po hr =>
    (dss_cons (ds_asg (ps_asg (de_callD d_l_draw hr tk (by decide) (by rfl) (da_cons (pa_cons (de_var (pv 0)) (da_cons (pa_cons de_int da_nil)))) (aLen_cons (aLen_cons aLen_nil))) (dg_nm (pg_name (i := 2) sc_l_near.nd rfl (Or.inl rfl)))))
    (dss_cons (ds_if (dt_w (dw_or (dt_cmp (op_eqD hr.units) oEq_ok oEqG_bl (de_var (pv 2)) de_int) (dw_or1 (dt_cmp (op_eqD hr.units) oEq_ok oEqG_bl (de_ix (de_var (pv 1)) de_int) (de_tup (pe_tup da_nil))))))
    (dss_one (ds_ret (de_callD d_l_tempo hr tk (by decide) (by rfl) (da_cons (pa_cons (de_var (pv 0)) (da_cons (pa_cons de_int da_nil)))) (aLen_cons (aLen_cons aLen_nil)))))
    dss_nil)
    (dss_cons (ds_asg (ps_asg (de_ix (de_ix (de_var (pv 1)) de_int) (de_neg de_int)) (dg_tp (ts := [(.nm 3), (.nm 4), (.nm 5)]) rfl (dgs_cons (pgs_cons (dg_nm (pg_name (i := 3) sc_l_near.nd rfl (Or.inl rfl))) (dgs_cons (pgs_cons (dg_nm (pg_name (i := 4) sc_l_near.nd rfl (Or.inl rfl))) (dgs_cons (pgs_cons (dg_nm (pg_name (i := 5) sc_l_near.nd rfl (Or.inl rfl))) dgs_nil)))))))))
    (dss_cons (ds_if (dt_w (dw_and (dt_cmp (op_eqD hr.units) oEq_ok oEqG_bl (de_var (pv 2)) de_int) (dw_and1 (dt_cmp (op_neD hr.units) oNe_ok oEqG_bl (de_tup (pe_tup (da_cons (pa_cons (de_var (pv 4)) (da_cons (pa_cons (de_var (pv 5)) da_nil)))))) (de_op op_mulAll oMul_ok (de_tup (pe_tup (da_cons (pa_cons (de_callD d_l_add hr tk (by decide) (by rfl) (da_cons (pa_cons (de_ix (de_var (pv 1)) de_int) (da_cons (pa_cons (de_tup (pe_tup (da_cons (pa_cons de_int (da_cons (pa_cons de_int da_nil)))))) da_nil)))) (aLen_cons (aLen_cons aLen_nil))) da_nil)))) de_int)))))
    (dss_one (ds_ret (de_tup (pe_tup (da_cons (pa_cons (de_ix (de_var (pv 1)) de_int) (da_cons (pa_cons (de_callD d_l_add hr tk (by decide) (by rfl) (da_cons (pa_cons (de_ix (de_var (pv 1)) de_int) (da_cons (pa_cons (de_tup (pe_tup (da_cons (pa_cons de_int (da_cons (pa_cons de_int da_nil)))))) da_nil)))) (aLen_cons (aLen_cons aLen_nil))) da_nil))))))))
    dss_nil)
    (dss_cons (ds_asg (ps_asg (de_tup (pe_tup (da_cons (pa_cons (de_op op_addAll oAdd_ok (de_var (pv 3)) de_int) (da_cons (pa_cons (de_var (pv 4)) (da_cons (pa_cons (de_callD d_l_add hr tk (by decide) (by rfl) (da_cons (pa_cons (de_var (pv 5)) (da_cons (pa_cons (de_tup (pe_tup (da_cons (pa_cons de_int (da_cons (pa_cons de_int da_nil)))))) da_nil)))) (aLen_cons (aLen_cons aLen_nil))) da_nil)))))))) (dg_nm (pg_name (i := 6) sc_l_near.nd rfl (Or.inl rfl)))))
    (dss_cons (ds_if (dt_w (dw_or (dt_cmp (op_eqD hr.units) oEq_ok oEqG_bl (de_sl (de_var (pv 6)) (do_at de_int) do_no) (de_tup (pe_tup (da_cons (pa_cons (de_ix (de_var (pv 1)) de_int) (da_cons (pa_cons (de_ix (de_var (pv 1)) de_int) da_nil))))))) (dw_or1 (dt_w (dw_and (dt_cmp op_gtB oGt_ok oGt_bl (de_callB (pe_callB call_len (by rfl) T.z_len (by decide +kernel) (da_cons (pa_cons (de_ix (de_var (pv 1)) de_int) da_nil))) cLen_ok) de_int) (dw_and1 (dt_val (de_callD d_l_goes_on hr tk (by decide) (by rfl) (da_cons (pa_cons (de_ix (de_ix (de_var (pv 1)) de_int) (de_neg de_int)) (da_cons (pa_cons (de_var (pv 6)) da_nil)))) (aLen_cons (aLen_cons aLen_nil))))))))))
    (dss_one (ds_ret (de_var (pv 1))))
    dss_nil)
    (dss_one (ds_ret (de_tup (pe_tup (da_cons (pa_cons (de_op op_addAll oAdd_ok (de_sl (de_ix (de_var (pv 1)) de_int) do_no (do_at (de_neg de_int))) (de_tup (pe_tup (da_cons (pa_cons (de_var (pv 6)) da_nil))))) (da_cons (pa_cons (de_ix (de_var (pv 1)) de_int) da_nil))))))))))))))
theorem ok_is_tempo : Def P w K mg base "is_tempo" ["thing"] 6 1 F_is_tempo := by
  have d_is_tuple_of := ok_is_tuple_of T (P := P) (w := w) (base := base)
  have d_is_above_nought := ok_is_above_nought T (P := P) (w := w) (base := base)
  have d_is_stretch := ok_is_stretch T (P := P) (w := w) (base := base)
  have d_is_plain := ok_is_plain T (P := P) (w := w) (base := base)
  exact def_okT (k := 5) T.a_is_tempo sc_is_tempo fun f cdv A outer s H E tk po hr =>
    (dss_cons (ds_if (dt_not (dt_val (de_callD d_is_tuple_of hr tk (by decide) (by rfl) (da_cons (pa_cons (de_var (pv 0)) (da_cons (pa_cons de_int da_nil)))) (aLen_cons (aLen_cons aLen_nil)))))
    (dss_one (ds_ret de_bl))
    dss_nil)
    (dss_cons (ds_asg (ps_asg (de_var (pv 0)) (dg_tp (ts := [(.nm 1), (.nm 2)]) rfl (dgs_cons (pgs_cons (dg_nm (pg_name (i := 1) sc_is_tempo.nd rfl (Or.inl rfl))) (dgs_cons (pgs_cons (dg_nm (pg_name (i := 2) sc_is_tempo.nd rfl (Or.inl rfl))) dgs_nil)))))))
    (dss_cons (ds_if (dt_w (dw_or (dt_not (dt_val (de_isi (pe_callB call_isi (by rfl) T.z_isinstance (by decide +kernel) (pa_cons (de_var (pv 1)) (pa_cons (pe_bltn (v := .ty "tuple") (by rfl) T.z_tuple (by decide +kernel) rfl) pa_nil)))))) (dw_or1 (dt_cmp op_gtB oGt_ok oGt_bl (de_callB (pe_callB call_len (by rfl) T.z_len (by decide +kernel) (da_cons (pa_cons (de_var (pv 1)) da_nil))) cLen_ok) (de_gint T.g_MOST_STRETCHES (by rfl))))))
    (dss_one (ds_ret de_bl))
    dss_nil)
    (dss_cons (ds_if (dt_w (dw_or (dt_not (dt_val (de_callD d_is_above_nought hr tk (by decide) (by rfl) (da_cons (pa_cons (de_var (pv 2)) da_nil)) (aLen_cons aLen_nil)))) (dw_or1 (dt_not (dt_val (de_callB (pe_callB (cr_all rfl) (by rfl) T.z_all (by decide +kernel) (da_cons (pa_cons (de_lc (own' := [("part", 3)]) (pe_lc (own := [("part", 3)]) rfl sc_is_tempo.nd (di_seq (de_var (pv 1))) (blkOk_by (N := ["thing", "stretches", "rest", "part"]) (sc := defScope s_is_tempo) (by decide +kernel)) (fun _ _ _ _ _ => (dg_nm (pg_name (i := 3) sc_is_tempo.nd rfl (Or.inl rfl)))) (fun _ _ _ _ _ => dts_nil) (fun _ _ _ _ _ => (de_callD d_is_stretch hr takes0 (by decide) (by rfl) (da_cons (pa_cons (de_var (pv 3)) da_nil)) (aLen_cons aLen_nil)))) (by decide)) da_nil))) cAll_ok))))))
    (dss_one (ds_ret de_bl))
    dss_nil)
    (dss_one (ds_ret (de_and (de_cmp op_le oLe_ok (de_callB (pe_callB (cr_sum rfl) (by rfl) T.z_sum (by decide +kernel) (da_cons (pa_cons (de_lc (own' := [("part", 3)]) (pe_lc (own := [("part", 3)]) rfl sc_is_tempo.nd (di_seq (de_var (pv 1))) (blkOk_by (N := ["thing", "stretches", "rest", "part"]) (sc := defScope s_is_tempo) (by decide +kernel)) (fun _ _ _ _ _ => (dg_nm (pg_name (i := 3) sc_is_tempo.nd rfl (Or.inl rfl)))) (fun _ _ _ _ _ => dts_nil) (fun _ _ _ _ _ => (de_ix (de_var (pv 3)) de_int))) (by decide)) da_nil))) cSum_ok) (de_gint T.g_MOST_STEPS (by rfl))) (de_one (de_callD d_is_plain hr tk (by decide) (by rfl) (da_cons (pa_cons (de_var (pv 1)) (da_cons (pa_cons (de_var (pv 2)) da_nil)))) (aLen_cons (aLen_cons aLen_nil)))))))))))
theorem ok_refuse_no_tempo : Def P w K mg base "_refuse_no_tempo" ["thing"] 7 1 F_refuse_no_tempo := by
  have d_is_tempo := ok_is_tempo T (P := P) (w := w) (base := base)
  exact def_okT (k := 6) T.a_refuse_no_tempo sc_refuse_no_tempo fun f cdv A outer s H E tk po hr =>
    (dss_one (ds_if (dt_not (dt_val (de_callD d_is_tempo hr tk (by decide) (by rfl) (da_cons (pa_cons (de_var (pv 0)) da_nil)) (aLen_cons aLen_nil))))
    (dss_one (ds_raise rfl tk T.x_NoTempo (by rfl)))
    dss_nil))
theorem ok_l_bad_tempos : Def P w K mg base "_law_bad_tempos" ["_law_pen_here", "_law_tempo_here"] 15 2 F_l_bad_tempos := by
  have d_l_bent := ok_l_bent T (P := P) (w := w) (base := base)
  have d_is_tempo := ok_is_tempo T (P := P) (w := w) (base := base)
  exact def_okT (k := 14) T.a_l_bad_tempos sc_l_bad_tempos fun f cdv A outer s H E tk po hr =>
    (dss_cons (ds_asg (ps_asg (de_var (pv 1)) (dg_tp (ts := [(.nm 2), (.nm 3)]) rfl (dgs_cons (pgs_cons (dg_nm (pg_name (i := 2) sc_l_bad_tempos.nd rfl (Or.inl rfl))) (dgs_cons (pgs_cons (dg_nm (pg_name (i := 3) sc_l_bad_tempos.nd rfl (Or.inl rfl))) dgs_nil)))))))
    (dss_cons (ds_asg (ps_asg (de_callB (pe_callTy call_tuple_of (by rfl) T.z_tuple (by decide +kernel) (da_cons (pa_cons (de_lc (own' := [("_law_k", 5)]) (pe_lc (own := [("_law_k", 5)]) rfl sc_l_bad_tempos.nd (di_rng1 (pi_range1 (by rfl) T.z_range (da_cons (pa_cons de_int da_nil))) (aLen_cons aLen_nil)) (blkOk_by (N := ["_law_pen_here", "_law_tempo_here", "_law_spans", "_law_rest", "_law_far", "_law_k", "_law_found", "_law_one"]) (sc := defScope s_l_bad_tempos) (by decide +kernel)) (fun _ _ _ _ _ => (dg_nm (pg_name (i := 5) sc_l_bad_tempos.nd rfl (Or.inl rfl)))) (fun _ _ _ _ _ => dts_nil) (fun _ _ _ _ _ => (de_tup (pe_tup (da_cons (pa_cons (de_op op_addAll oAdd_ok de_int (de_var (pv 5))) (da_cons (pa_cons (de_tup (pe_tup (da_cons (pa_cons (de_op op_addAll oAdd_ok de_int (de_op op_mod oMod_ok (de_var (pv 5)) de_int)) (da_cons (pa_cons de_int da_nil)))))) (da_cons (pa_cons (de_tup (pe_tup (da_cons (pa_cons (de_op op_addAll oAdd_ok de_int (de_op op_mod oMod_ok (de_var (pv 5)) de_int)) (da_cons (pa_cons de_int da_nil)))))) da_nil)))))))))) (by decide)) da_nil))) cTuple_ok) (dg_nm (pg_name (i := 4) sc_l_bad_tempos.nd rfl (Or.inl rfl)))))
    (dss_cons (ds_asg (ps_asg (de_lst (pe_lst (da_cons (pa_cons (de_tup (pe_tup (da_cons (pa_cons (de_var (pv 2)) (da_cons (pa_cons (de_tup (pe_tup (da_cons (pa_cons de_int (da_cons (pa_cons de_int da_nil)))))) da_nil)))))) (da_cons (pa_cons (de_tup (pe_tup (da_cons (pa_cons (de_op op_addAll oAdd_ok (de_var (pv 2)) (de_tup (pe_tup (da_cons (pa_cons (de_tup (pe_tup (da_cons (pa_cons de_int (da_cons (pa_cons (de_tup (pe_tup (da_cons (pa_cons de_int (da_cons (pa_cons de_int da_nil)))))) (da_cons (pa_cons (de_tup (pe_tup (da_cons (pa_cons de_int (da_cons (pa_cons de_int da_nil)))))) da_nil)))))))) da_nil))))) (da_cons (pa_cons (de_var (pv 3)) da_nil)))))) (da_cons (pa_cons (de_tup (pe_tup (da_cons (pa_cons (de_var (pv 2)) da_nil)))) (da_cons (pa_cons (de_callB (pe_callTy call_list_of (by rfl) T.z_list (by decide +kernel) (da_cons (pa_cons (de_var (pv 1)) da_nil))) cList_ok) (da_cons (pa_cons de_non (da_cons (pa_cons (de_var (pv 2)) (da_cons (pa_cons (de_tup (pe_tup (da_cons (pa_cons (de_var (pv 4)) (da_cons (pa_cons (de_tup (pe_tup (da_cons (pa_cons de_int (da_cons (pa_cons de_int da_nil)))))) da_nil)))))) da_nil)))))))))))))))) (dg_nm (pg_name (i := 6) sc_l_bad_tempos.nd rfl (Or.inl rfl)))))
    (dss_cons (ds_asg (ps_asg (de_op op_addAll oAdd_ok (de_var (pv 6)) (de_lst (pe_lst (da_cons (pa_cons (de_tup (pe_tup (da_cons (pa_cons (de_tup (pe_tup (da_cons (pa_cons (de_tup (pe_tup (da_cons (pa_cons de_int (da_cons (pa_cons (de_tup (pe_tup (da_cons (pa_cons de_int (da_cons (pa_cons de_int da_nil)))))) (da_cons (pa_cons (de_tup (pe_tup (da_cons (pa_cons de_int (da_cons (pa_cons de_int da_nil)))))) da_nil)))))))) da_nil)))) (da_cons (pa_cons (de_var (pv 3)) da_nil)))))) (da_cons (pa_cons (de_tup (pe_tup (da_cons (pa_cons (de_op op_addAll oAdd_ok (de_var (pv 2)) (de_tup (pe_tup (da_cons (pa_cons (de_tup (pe_tup (da_cons (pa_cons de_int (da_cons (pa_cons (de_var (pv 3)) (da_cons (pa_cons (de_var (pv 3)) da_nil)))))))) da_nil))))) (da_cons (pa_cons (de_var (pv 3)) da_nil)))))) (da_cons (pa_cons (de_tup (pe_tup (da_cons (pa_cons (de_var (pv 2)) (da_cons (pa_cons (de_var (pv 3)) (da_cons (pa_cons (de_var (pv 3)) da_nil)))))))) da_nil))))))))) (dg_nm (pg_name (i := 6) sc_l_bad_tempos.nd rfl (Or.inl rfl)))))
    (dss_cons (ds_asg (ps_asg (de_op op_addAll oAdd_ok (de_var (pv 6)) (de_lst (pe_lst (da_cons (pa_cons (de_tup (pe_tup (da_cons (pa_cons (de_tup (pe_tup (da_cons (pa_cons (de_tup (pe_tup (da_cons (pa_cons de_int (da_cons (pa_cons (de_tup (pe_tup (da_cons (pa_cons de_int (da_cons (pa_cons de_int da_nil)))))) (da_cons (pa_cons (de_tup (pe_tup (da_cons (pa_cons de_int (da_cons (pa_cons de_int da_nil)))))) da_nil)))))))) (da_cons (pa_cons (de_tup (pe_tup (da_cons (pa_cons de_int (da_cons (pa_cons (de_tup (pe_tup (da_cons (pa_cons de_int (da_cons (pa_cons de_int da_nil)))))) (da_cons (pa_cons (de_tup (pe_tup (da_cons (pa_cons de_int (da_cons (pa_cons de_int da_nil)))))) da_nil)))))))) da_nil)))))) (da_cons (pa_cons (de_var (pv 3)) da_nil)))))) (da_cons (pa_cons (de_tup (pe_tup (da_cons (pa_cons (de_tup (pe_tup (da_cons (pa_cons (de_tup (pe_tup (da_cons (pa_cons de_int (da_cons (pa_cons (de_tup (pe_tup (da_cons (pa_cons de_int (da_cons (pa_cons de_int da_nil)))))) (da_cons (pa_cons (de_tup (pe_tup (da_cons (pa_cons de_int (da_cons (pa_cons de_int da_nil)))))) da_nil)))))))) da_nil)))) (da_cons (pa_cons (de_var (pv 3)) da_nil)))))) da_nil))))))) (dg_nm (pg_name (i := 6) sc_l_bad_tempos.nd rfl (Or.inl rfl)))))
    (dss_cons (ds_asg (ps_asg (de_op op_addAll oAdd_ok (de_var (pv 6)) (de_lst (pe_lst (da_cons (pa_cons (de_tup (pe_tup (da_cons (pa_cons (de_tup (pe_tup (da_cons (pa_cons (de_tup (pe_tup (da_cons (pa_cons de_bl (da_cons (pa_cons (de_tup (pe_tup (da_cons (pa_cons de_int (da_cons (pa_cons de_int da_nil)))))) (da_cons (pa_cons (de_tup (pe_tup (da_cons (pa_cons de_int (da_cons (pa_cons de_int da_nil)))))) da_nil)))))))) da_nil)))) (da_cons (pa_cons (de_var (pv 3)) da_nil)))))) (da_cons (pa_cons (de_tup (pe_tup (da_cons (pa_cons (de_tup (pe_tup (da_cons (pa_cons (de_lst (pe_lst (da_cons (pa_cons de_int (da_cons (pa_cons (de_tup (pe_tup (da_cons (pa_cons de_int (da_cons (pa_cons de_int da_nil)))))) (da_cons (pa_cons (de_tup (pe_tup (da_cons (pa_cons de_int (da_cons (pa_cons de_int da_nil)))))) da_nil)))))))) da_nil)))) (da_cons (pa_cons (de_var (pv 3)) da_nil)))))) (da_cons (pa_cons (de_tup (pe_tup (da_cons (pa_cons (de_callB (pe_callTy call_list_of (by rfl) T.z_list (by decide +kernel) (da_cons (pa_cons (de_var (pv 2)) da_nil))) cList_ok) (da_cons (pa_cons (de_var (pv 3)) da_nil)))))) da_nil))))))))) (dg_nm (pg_name (i := 6) sc_l_bad_tempos.nd rfl (Or.inl rfl)))))
    (dss_one (ds_ret (de_op op_addAll oAdd_ok (de_var (pv 6)) (de_lc (own' := [("_law_one", 7)]) (pe_lc (own := [("_law_one", 7)]) rfl sc_l_bad_tempos.nd (di_seq (de_lc (own' := [("_law_k", 5)]) (pe_lc (own := [("_law_k", 5)]) rfl sc_l_bad_tempos.nd (di_rng1 (pi_range1 (by rfl) T.z_range (da_cons (pa_cons de_int da_nil))) (aLen_cons aLen_nil)) (blkOk_by (N := ["_law_pen_here", "_law_tempo_here", "_law_spans", "_law_rest", "_law_far", "_law_k", "_law_found", "_law_one"]) (sc := defScope s_l_bad_tempos) (by decide +kernel)) (fun _ _ _ _ _ => (dg_nm (pg_name (i := 5) sc_l_bad_tempos.nd rfl (Or.inl rfl)))) (fun _ _ _ _ _ => dts_nil) (fun _ _ _ _ _ => (de_callD d_l_bent hr takes0 (by decide) (by rfl) (da_cons (pa_cons (de_var (pv 0)) (da_cons (pa_cons (de_var (pv 1)) da_nil)))) (aLen_cons (aLen_cons aLen_nil))))) (by decide))) (blkOk_by (N := ["_law_pen_here", "_law_tempo_here", "_law_spans", "_law_rest", "_law_far", "_law_k", "_law_found", "_law_one"]) (sc := defScope s_l_bad_tempos) (by decide +kernel)) (fun _ _ _ _ _ => (dg_nm (pg_name (i := 7) sc_l_bad_tempos.nd rfl (Or.inl rfl)))) (fun _ _ _ _ _ => (dts_one (dt_cmp op_isAll oIs_ok oIsG_bl (de_callD d_is_tempo hr takes0 (by decide) (by rfl) (da_cons (pa_cons (de_var (pv 7)) da_nil)) (aLen_cons aLen_nil)) de_bl))) (fun _ _ _ _ _ => (de_var (pv 7)))) (by decide)))))))))))
theorem ok_length_of : Def P w K mg base "length_of" ["tempo", "step"] 8 2 F_length_of := by
  have d_is_whole := ok_is_whole T (P := P) (w := w) (base := base)
  have d_length_at := ok_length_at T (P := P) (w := w) (base := base)
  have d_refuse_no_tempo := ok_refuse_no_tempo T (P := P) (w := w) (base := base)
  exact def_okT (k := 7) T.a_length_of sc_length_of fun f cdv A outer s H E tk po hr =>
    (dss_cons (ds_expr (ps_expr (de_callD d_refuse_no_tempo hr tk (by decide) (by rfl) (da_cons (pa_cons (de_var (pv 0)) da_nil)) (aLen_cons aLen_nil))))
    (dss_cons (ds_if (dt_w (dw_or (dt_not (dt_val (de_callD d_is_whole hr tk (by decide) (by rfl) (da_cons (pa_cons (de_var (pv 1)) da_nil)) (aLen_cons aLen_nil)))) (dw_or1 (dt_cmp op_lt oLt_ok oLt_bl (de_var (pv 1)) de_int))))
    (dss_one (ds_raise rfl tk T.x_NoStep (by rfl)))
    dss_nil)
    (dss_one (ds_ret (de_callD d_length_at hr tk (by decide) (by rfl) (da_cons (pa_cons (de_var (pv 0)) (da_cons (pa_cons (de_var (pv 1)) da_nil)))) (aLen_cons (aLen_cons aLen_nil)))))))
theorem ok_l_asked : Def P w K mg base "_law_asked" ["_law_tempo_here", "_law_step"] 9 2 F_l_asked := by
  have d_l_word := ok_l_word T (P := P) (w := w) (base := base)
  have d_length_of := ok_length_of T (P := P) (w := w) (base := base)
  exact def_okT (k := 8) T.a_l_asked sc_l_asked fun f cdv A outer s H E tk po hr =>
    (dss_one (ds_tryT (i := 2) T.h_LaneError (by rfl) (by decide) rfl rfl rfl sc_l_asked.nd rfl rfl tk (fun W1 pn xe tk1 po1 => (dss_one (ds_ret (de_tup (pe_tup (da_cons (pa_cons de_str (da_cons (pa_cons (de_callD d_length_of hr tk1 (by decide) (by rfl) (da_cons (pa_cons (de_var (pv 0)) (da_cons (pa_cons (de_var (pv 1)) da_nil)))) (aLen_cons (aLen_cons aLen_nil))) da_nil))))))))) (fun a pn => (dss_one (ds_ret (de_tup (pe_tup (da_cons (pa_cons de_str (da_cons (pa_cons (de_callW d_l_word (RoomH.mono (k := 8) ⟨hr.dp, hr.un⟩ (by decide)) takes0 (by rfl) (da_cons (pa_cons (de_var (pv 2)) da_nil)) (aLen_cons aLen_nil)) da_nil)))))))))))
theorem ok_l_full_right : Def P w K mg base "_law_full_right" ["_law_pen_here"] 14 1 F_l_full_right := by
  have d_l_draw := ok_l_draw T (P := P) (w := w) (base := base)
  have d_l_same := ok_l_same T (P := P) (w := w) (base := base)
  have d_l_steps := ok_l_steps T (P := P) (w := w) (base := base)
  have d_l_length := ok_l_length T (P := P) (w := w) (base := base)
  have d_l_full := ok_l_full T (P := P) (w := w) (base := base)
  have d_l_asked := ok_l_asked T (P := P) (w := w) (base := base)
  exact def_okT (k := 13) T.a_l_full_right sc_l_full_right fun f cdv A outer s H E tk po hr =>
    (dss_cons (ds_asg (ps_asg (de_callD d_l_full hr tk (by decide) (by rfl) (da_cons (pa_cons (de_var (pv 0)) da_nil)) (aLen_cons aLen_nil)) (dg_nm (pg_name (i := 1) sc_l_full_right.nd rfl (Or.inl rfl)))))
    (dss_cons (ds_for (ps_for po rfl (di_seq (de_op op_addAll oAdd_ok (de_sl (de_callD d_l_steps hr tk (by decide) (by rfl) (da_cons (pa_cons (de_var (pv 0)) (da_cons (pa_cons (de_var (pv 1)) da_nil)))) (aLen_cons (aLen_cons aLen_nil))) (do_at (de_neg de_int)) do_no) (de_lst (pe_lst (da_cons (pa_cons de_int (da_cons (pa_cons de_int (da_cons (pa_cons de_int (da_cons (pa_cons (de_callD d_l_draw hr tk (by decide) (by rfl) (da_cons (pa_cons (de_var (pv 0)) (da_cons (pa_cons de_int da_nil)))) (aLen_cons (aLen_cons aLen_nil))) da_nil)))))))))))) (dg_nm (pg_name (i := 2) sc_l_full_right.nd rfl (Or.inl rfl)))
    (dss_one (ds_if (dt_not (dt_val (de_callD d_l_same hr tk (by decide) (by rfl) (da_cons (pa_cons (de_callD d_l_asked hr tk (by decide) (by rfl) (da_cons (pa_cons (de_var (pv 1)) (da_cons (pa_cons (de_var (pv 2)) da_nil)))) (aLen_cons (aLen_cons aLen_nil))) (da_cons (pa_cons (de_tup (pe_tup (da_cons (pa_cons de_str (da_cons (pa_cons (de_callD d_l_length hr tk (by decide) (by rfl) (da_cons (pa_cons (de_var (pv 1)) (da_cons (pa_cons (de_var (pv 2)) da_nil)))) (aLen_cons (aLen_cons aLen_nil))) da_nil)))))) da_nil)))) (aLen_cons (aLen_cons aLen_nil)))))
    (dss_one (ds_ret de_bl))
    dss_nil))))
    (dss_one (ds_ret de_bl))))
theorem ok_law {a : Addr} {fd : FuncData} (A : Fun K "law" "law" s_law a fd) : FnW (RoomG 16) P w K mg base (L2.CX P w) a fd ["_law_script"] (spF K ⟨mg, P, w⟩ 1 F_law) := by
  have d_l_pen := ok_l_pen T (P := P) (w := w) (base := base)
  have d_l_draw := ok_l_draw T (P := P) (w := w) (base := base)
  have d_l_same := ok_l_same T (P := P) (w := w) (base := base)
  have d_l_steps := ok_l_steps T (P := P) (w := w) (base := base)
  have d_l_tempo := ok_l_tempo T (P := P) (w := w) (base := base)
  have d_l_length := ok_l_length T (P := P) (w := w) (base := base)
  have d_l_twice := ok_l_twice T (P := P) (w := w) (base := base)
  have d_l_near := ok_l_near T (P := P) (w := w) (base := base)
  have d_l_bad_tempos := ok_l_bad_tempos T (P := P) (w := w) (base := base)
  have d_l_asked := ok_l_asked T (P := P) (w := w) (base := base)
  have d_l_full_right := ok_l_full_right T (P := P) (w := w) (base := base)
  exact fnG_okG (k := 15) A sc_law fun cdv A outer s H E tk po hg hr =>
    (dss_cons (ds_asg (ps_asg (de_callD d_l_pen hr tk (by decide) (by rfl) (da_cons (pa_cons (de_var (pv 0)) da_nil)) (aLen_cons aLen_nil)) (dg_nm (pg_name (i := 1) sc_law.nd rfl (Or.inl rfl)))))
    (dss_cons (ds_asg (ps_asg (de_callD d_l_twice hr tk (by decide) (by rfl) (da_cons (pa_cons (de_var (pv 1)) (da_cons (pa_cons (de_callD d_l_tempo hr tk (by decide) (by rfl) (da_cons (pa_cons (de_var (pv 1)) (da_cons (pa_cons de_int da_nil)))) (aLen_cons (aLen_cons aLen_nil))) da_nil)))) (aLen_cons (aLen_cons aLen_nil))) (dg_nm (pg_name (i := 2) sc_law.nd rfl (Or.inl rfl)))))
    (dss_cons (ds_asg (ps_asg (de_callD d_l_near hr tk (by decide) (by rfl) (da_cons (pa_cons (de_var (pv 1)) (da_cons (pa_cons (de_var (pv 2)) da_nil)))) (aLen_cons (aLen_cons aLen_nil))) (dg_nm (pg_name (i := 3) sc_law.nd rfl (Or.inl rfl)))))
    (dss_cons (ds_asg (ps_asg (de_callB (pe_callB (call_reprD hg.2 (room_un hr)) (by rfl) T.z_repr (by decide +kernel) (da_cons (pa_cons (de_tup (pe_tup (da_cons (pa_cons (de_var (pv 2)) (da_cons (pa_cons (de_var (pv 3)) da_nil)))))) da_nil))) cRepr_ok) (dg_nm (pg_name (i := 4) sc_law.nd rfl (Or.inl rfl)))))
    (dss_cons (ds_for (ps_for po rfl (di_seq (de_op op_addAll oAdd_ok (de_callD d_l_steps hr tk (by decide) (by rfl) (da_cons (pa_cons (de_var (pv 1)) (da_cons (pa_cons (de_var (pv 2)) da_nil)))) (aLen_cons (aLen_cons aLen_nil))) (de_callD d_l_steps hr tk (by decide) (by rfl) (da_cons (pa_cons (de_var (pv 1)) (da_cons (pa_cons (de_var (pv 3)) da_nil)))) (aLen_cons (aLen_cons aLen_nil))))) (dg_nm (pg_name (i := 5) sc_law.nd rfl (Or.inl rfl)))
    (dss_one (ds_for (ps_for po rfl (di_seq (de_tup (pe_tup (da_cons (pa_cons (de_var (pv 2)) (da_cons (pa_cons (de_var (pv 3)) (da_cons (pa_cons (de_var (pv 2)) da_nil))))))))) (dg_nm (pg_name (i := 6) sc_law.nd rfl (Or.inr rfl)))
    (dss_one (ds_if (dt_not (dt_val (de_callD d_l_same hr tk (by decide) (by rfl) (da_cons (pa_cons (de_callD d_l_asked hr tk (by decide) (by rfl) (da_cons (pa_cons (de_var (pv 6)) (da_cons (pa_cons (de_var (pv 5)) da_nil)))) (aLen_cons (aLen_cons aLen_nil))) (da_cons (pa_cons (de_tup (pe_tup (da_cons (pa_cons de_str (da_cons (pa_cons (de_callD d_l_length hr tk (by decide) (by rfl) (da_cons (pa_cons (de_var (pv 6)) (da_cons (pa_cons (de_var (pv 5)) da_nil)))) (aLen_cons (aLen_cons aLen_nil))) da_nil)))))) da_nil)))) (aLen_cons (aLen_cons aLen_nil)))))
    (dss_one (ds_ret de_bl))
    dss_nil)))))))
    (dss_cons (ds_for (ps_for po rfl (di_seq (de_tup (pe_tup (da_cons (pa_cons (de_neg de_int) (da_cons (pa_cons (de_op op_sub oSub_ok (de_neg de_int) (de_callD d_l_draw hr tk (by decide) (by rfl) (da_cons (pa_cons (de_var (pv 1)) (da_cons (pa_cons (de_op op_pow oPow_ok de_int de_int) da_nil)))) (aLen_cons (aLen_cons aLen_nil)))) (da_cons (pa_cons de_bl (da_cons (pa_cons de_bl (da_cons (pa_cons de_non (da_cons (pa_cons de_str (da_cons (pa_cons (de_tup (pe_tup (da_cons (pa_cons de_int (da_cons (pa_cons de_int da_nil)))))) (da_cons (pa_cons (de_tup (pe_tup da_nil)) (da_cons (pa_cons (de_lst (pe_lst da_nil)) (da_cons (pa_cons de_dct0 da_nil))))))))))))))))))))))) (dg_nm (pg_name (i := 7) sc_law.nd rfl (Or.inl rfl)))
    (dss_one (ds_if (dt_cmp (op_neD hr.units) oNe_ok oEqG_bl (de_callD d_l_asked hr tk (by decide) (by rfl) (da_cons (pa_cons (de_var (pv 2)) (da_cons (pa_cons (de_var (pv 7)) da_nil)))) (aLen_cons (aLen_cons aLen_nil))) (de_tup (pe_tup (da_cons (pa_cons de_str (da_cons (pa_cons de_str da_nil)))))))
    (dss_one (ds_ret de_bl))
    dss_nil))))
    (dss_cons (ds_for (ps_for po rfl (di_seq (de_callD d_l_bad_tempos hr tk (by decide) (by rfl) (da_cons (pa_cons (de_var (pv 1)) (da_cons (pa_cons (de_var (pv 2)) da_nil)))) (aLen_cons (aLen_cons aLen_nil)))) (dg_nm (pg_name (i := 6) sc_law.nd rfl (Or.inr rfl)))
    (dss_one (ds_if (dt_cmp (op_neD hr.units) oNe_ok oEqG_bl (de_lc (own' := [("_law_thing", 7)]) (pe_lc (own := [("_law_thing", 7)]) rfl sc_law.nd (di_seq (de_tup (pe_tup (da_cons (pa_cons de_int (da_cons (pa_cons (de_neg de_int) (da_cons (pa_cons de_non (da_cons (pa_cons (de_callD d_l_draw hr tk (by decide) (by rfl) (da_cons (pa_cons (de_var (pv 1)) (da_cons (pa_cons de_int da_nil)))) (aLen_cons (aLen_cons aLen_nil))) da_nil))))))))))) (blkOk_by (N := ["_law_script", "_law_pen_here", "_law_tempo_here", "_law_other", "_law_stood", "_law_step", "_law_here", "_law_thing"]) (sc := defScope s_law) (by decide +kernel)) (fun _ _ _ _ _ => (dg_nm (pg_name (i := 7) sc_law.nd rfl (Or.inl rfl)))) (fun _ _ _ _ _ => dts_nil) (fun _ _ _ _ _ => (de_callD d_l_asked hr takes0 (by decide) (by rfl) (da_cons (pa_cons (de_var (pv 6)) (da_cons (pa_cons (de_var (pv 7)) da_nil)))) (aLen_cons (aLen_cons aLen_nil))))) (by decide)) (de_op op_mulAll oMul_ok (de_lst (pe_lst (da_cons (pa_cons (de_tup (pe_tup (da_cons (pa_cons de_str (da_cons (pa_cons de_str da_nil)))))) da_nil)))) de_int))
    (dss_one (ds_ret de_bl))
    dss_nil))))
    (dss_cons (ds_if (dt_not (dt_val (de_callD d_l_same hr tk (by decide) (by rfl) (da_cons (pa_cons (de_callD d_l_asked hr tk (by decide) (by rfl) (da_cons (pa_cons (de_var (pv 2)) (da_cons (pa_cons de_int da_nil)))) (aLen_cons (aLen_cons aLen_nil))) (da_cons (pa_cons (de_tup (pe_tup (da_cons (pa_cons de_str (da_cons (pa_cons (de_callD d_l_length hr tk (by decide) (by rfl) (da_cons (pa_cons (de_var (pv 2)) (da_cons (pa_cons de_int da_nil)))) (aLen_cons (aLen_cons aLen_nil))) da_nil)))))) da_nil)))) (aLen_cons (aLen_cons aLen_nil)))))
    (dss_one (ds_ret de_bl))
    dss_nil)
    (dss_one (ds_ret (de_and (de_cmp (op_eqD hr.units) oEq_ok (de_callB (pe_callB (call_reprD hg.2 (room_un hr)) (by rfl) T.z_repr (by decide +kernel) (da_cons (pa_cons (de_tup (pe_tup (da_cons (pa_cons (de_var (pv 2)) (da_cons (pa_cons (de_var (pv 3)) da_nil)))))) da_nil))) cRepr_ok) (de_var (pv 4))) (de_one (de_callD d_l_full_right hr tk (by decide) (by rfl) (da_cons (pa_cons (de_var (pv 1)) da_nil)) (aLen_cons aLen_nil))))))))))))))
end
end Lk08
set_option Elab.async false
set_option linter.all false
set_option maxRecDepth 100000
namespace DV
open PySem L2
mutual
/-- by value, at most so deep -/
def Pl : Nat → D → Prop
  | 0, _ => False
  | k + 1, .tup xs => Pls k xs
  | k + 1, .lst xs => Pls k xs
  | _ + 1, .ob _ => False
  | k + 1, .dct kvs => Pls k (kvs.map (·.2))
  | _ + 1, .dtt _ => False
  | k + 1, .ins _ _ vs => Pls k vs
  | _ + 1, _ => True
def Pls : Nat → List D → Prop
  | _, [] => True
  | 0, _ :: _ => False
  | k + 1, d :: ds => Pl k d ∧ Pls (k + 1) ds
end
theorem zipkv {α β : Type} : ∀ {l : List (α × β)}, (l.map (·.1)).zip (l.map (·.2)) = l
  | [] => rfl
  | x :: l => by simp only [List.map_cons, List.zip_cons_cons, zipkv (l := l)]
mutual
theorem frz_pl {n : Nat} {S : Sto} : ∀ (k : Nat) (d : D), Pl k d → frz n S k d = some d
  | 0, _, h => by simp [Pl] at h
  | k + 1, .tup xs, h => by simp only [Pl] at h; simp only [frz, frzs_pl k xs h, Option.map_some]
  | k + 1, .lst xs, h => by simp only [Pl] at h; simp only [frz, frzs_pl k xs h, Option.map_some]
  | k + 1, .ins c ks vs, h => by simp only [Pl] at h; simp only [frz, frzs_pl k vs h, Option.map_some]
  | _ + 1, .ob _, h => by simp [Pl] at h
  | k + 1, .dct kvs, h => by simp only [Pl] at h; simp only [frz, frzs_pl k _ h, Option.map_some, zipkv]
  | _ + 1, .dtt _, h => by simp [Pl] at h
  | _ + 1, .non, _ => by simp [frz]
  | _ + 1, .bl _, _ => by simp [frz]
  | _ + 1, .int _, _ => by simp [frz]
  | _ + 1, .str _, _ => by simp [frz]
  | _ + 1, .exc _, _ => by simp [frz]
  | _ + 1, .ro _, _ => by simp [frz]
  | _ + 1, .gl _, _ => by simp [frz]
theorem frzs_pl {n : Nat} {S : Sto} : ∀ (k : Nat) (ds : List D), Pls k ds → frzs n S k ds = some ds
  | 0, [], _ => by simp [frzs]
  | _ + 1, [], _ => by simp [frzs]
  | 0, _ :: _, h => by simp [Pls] at h
  | k + 1, d :: ds, h => by
    simp only [Pls] at h
    simp only [frzs, frz_pl k d h.1, frzs_pl (k + 1) ds h.2]
end
theorem pls_iff {k : Nat} : ∀ {ds : List D}, Pls (k + 1) ds ↔ ∀ d ∈ ds, Pl k d
  | [] => by simp [Pls]
  | d :: ds => by simp [Pls, pls_iff (k := k) (ds := ds)]
theorem pl_tup {k : Nat} {xs : List D} (h : Pls k xs) : Pl (k + 1) (.tup xs) := by simp only [Pl]; exact h
theorem pl_lst {k : Nat} {xs : List D} (h : Pls k xs) : Pl (k + 1) (.lst xs) := by simp only [Pl]; exact h
mutual
theorem Pl.up : ∀ {k : Nat} {d : D}, Pl k d → Pl (k + 1) d
  | 0, _, h => by simp [Pl] at h
  | k + 1, .tup xs, h => by simp only [Pl] at h ⊢; exact Pls.up h
  | k + 1, .lst xs, h => by simp only [Pl] at h ⊢; exact Pls.up h
  | k + 1, .ins c ks vs, h => by simp only [Pl] at h ⊢; exact Pls.up h
  | _ + 1, .ob _, h => by simp [Pl] at h
  | k + 1, .dct kvs, h => by simp only [Pl] at h ⊢; exact Pls.up h
  | _ + 1, .dtt _, h => by simp [Pl] at h
  | _ + 1, .non, _ => by simp [Pl]
  | _ + 1, .bl _, _ => by simp [Pl]
  | _ + 1, .int _, _ => by simp [Pl]
  | _ + 1, .str _, _ => by simp [Pl]
  | _ + 1, .exc _, _ => by simp [Pl]
  | _ + 1, .ro _, _ => by simp [Pl]
  | _ + 1, .gl _, _ => by simp [Pl]
theorem Pls.up : ∀ {k : Nat} {ds : List D}, Pls k ds → Pls (k + 1) ds
  | _, [], _ => by simp [Pls]
  | 0, _ :: _, h => by simp [Pls] at h
  | k + 1, d :: ds, h => by
    simp only [Pls] at h ⊢
    exact ⟨h.1.up, h.2.up⟩
end
theorem Pl.le {d : D} {k j : Nat} (h : Pl k d) (hj : k ≤ j) : Pl j d := by
  induction hj with
  | refl => exact h
  | step _ ih => exact ih.up
theorem Pls.le {d : List D} {k j : Nat} (h : Pls k d) (hj : k ≤ j) : Pls j d := by
  induction hj with
  | refl => exact h
  | step _ ih => exact ih.up
/-- an object that stays as it is when it is handed on -/
def Fz (n : Nat) (o : O) : Prop := ∀ S, frzO n S 40 o = some o
/-- S' is S, or S with other objects that are fit to be handed on -/
structure Kp (S S' : Sto) : Prop where
  len : S'.length = S.length
  at' : ∀ (i : Nat) (o : O), S'[i]? = some o → S[i]? = some o ∨ Fz S.length o
theorem Kp.rfl' {S : Sto} : Kp S S := ⟨rfl, fun i o h => .inl h⟩
theorem Kp.trans {S S1 S2 : Sto} (a : Kp S S1) (b : Kp S1 S2) : Kp S S2 := ⟨b.len.trans a.len, fun i o h => (b.at' i o h).elim (a.at' i o) fun z => .inr (by rw [← a.len]; exact z)⟩
theorem dropOs_kp {n : Nat} {S1 : Sto} : ∀ {S S' E : Sto}, S'.length = S.length → (∀ (i : Nat) (o : O), S'[i]? = some o → S[i]? = some o ∨ Fz n o) → dropOs n S1 40 S (S' ++ E) = some S'
  | [], [], _, _, _ => rfl
  | [], _ :: _, _, h, _ => by simp at h
  | _ :: _, [], _, h, _ => by simp at h
  | o :: os, o' :: os', E, h, g => by
    have ih := dropOs_kp (n := n) (S1 := S1) (S := os) (S' := os') (E := E) (by simpa using h) fun i u hu => by simpa using g (i + 1) u (by simpa using hu)
    have h0 := g 0 o' rfl
    simp only [List.cons_append, dropOs, ih]
    by_cases e : o' = o
    · subst e; rw [if_pos (gd_of rfl)]
    · have : ¬ gd (o' = o) = true := fun z => e (of_gd z)
      rw [if_neg this]
      rcases h0 with h0 | h0
      · exact absurd (by simpa using h0) (Ne.symm e)
      · rw [h0]
theorem Kp.drop {S S' E : Sto} {S1 : Sto} (k : Kp S S') : dropOs S.length S1 40 S (S' ++ E) = some S' := dropOs_kp k.len k.at'
/-- what comes later hangs on this, so it is left alone while the head is reckoned -/
structure Tie {α : Type} (Q : α → Sto → Prop) (E : Str → Sto → Prop) : Type where
def Wp {α : Type} (r : Res α) (Q : α → Sto → Prop) (E : Str → Sto → Prop) (_ : Tie Q E := ⟨⟩) : Prop := match r with
  | .ok a S => Q a S
  | .ex c S => E c S
  | .no => False
structure Pq where
  nx : Lc → Sto → Prop
  rt : D → Sto → Prop
  ex : Str → Lc → Sto → Prop
  bk : Lc → Sto → Prop
  ct : Lc → Sto → Prop
structure TieS (N : Pq) : Type where
def Ws (r : SR) (N : Pq) (_ : TieS N := ⟨⟩) : Prop := match r with
  | .nx ρ S => N.nx ρ S
  | .rt d S => N.rt d S
  | .ex c ρ S => N.ex c ρ S
  | .bk ρ S => N.bk ρ S
  | .ct ρ S => N.ct ρ S
  | .no => False
section
variable {α β : Type} {Q Q' : α → Sto → Prop} {E E' : Str → Sto → Prop} {N N' : Pq} {S : Sto} {ρ : Lc}
@[simp] theorem wp_ok {a : α} : Wp (.ok a S) Q E = Q a S := rfl
@[simp] theorem wp_ex {c : Str} : Wp (.ex c S : Res α) Q E = E c S := rfl
@[simp] theorem wp_no : Wp (.no : Res α) Q E = False := rfl
@[simp] theorem ws_nx : Ws (.nx ρ S) N = N.nx ρ S := rfl
@[simp] theorem ws_rt {d : D} : Ws (.rt d S) N = N.rt d S := rfl
@[simp] theorem ws_ex {c : Str} : Ws (.ex c ρ S) N = N.ex c ρ S := rfl
@[simp] theorem ws_bk : Ws (.bk ρ S) N = N.bk ρ S := rfl
@[simp] theorem ws_ct : Ws (.ct ρ S) N = N.ct ρ S := rfl
@[simp] theorem ws_no : Ws .no N = False := rfl
@[simp] theorem wp_bind {r : Res β} {k : β → Sto → Res α} : Wp (r.bind k) Q E = Wp r (fun b S => Wp (k b S) Q E) E := by cases r <;> rfl
@[simp] theorem ws_sb {r : Res β} {k : β → Sto → SR} : Ws (r.sb ρ k) N = Wp r (fun b S => Ws (k b S) N) (fun c S => N.ex c ρ S) := by cases r <;> rfl
@[simp] theorem wp_ite {p : Prop} [Decidable p] {a b : Res α} : Wp (if p then a else b) Q E = ((p → Wp a Q E) ∧ (¬ p → Wp b Q E)) := by by_cases h : p <;> simp [h]
@[simp] theorem ws_ite {p : Prop} [Decidable p] {a b : SR} : Ws (if p then a else b) N = ((p → Ws a N) ∧ (¬ p → Ws b N)) := by by_cases h : p <;> simp [h]
theorem Wp.imp {r : Res α} (h : Wp r Q E) (hq : ∀ a S, Q a S → Q' a S) (he : ∀ c S, E c S → E' c S) : Wp r Q' E' := by
  cases r with
  | ok a S => exact hq _ _ h
  | ex c S => exact he _ _ h
  | no => exact h
theorem Wp.eq {r : Res α} {a : α} (h : r = .ok a S) (q : Q a S) : Wp r Q E := by rw [h]; exact q
theorem Wp.get {r : Res α} (h : Wp r Q fun _ _ => False) : ∃ a S, r = .ok a S ∧ Q a S := by
  cases r with
  | ok a S => exact ⟨a, S, rfl, h⟩
  | ex c S => exact h.elim
  | no => exact h.elim
theorem Ws.imp {r : SR} (h : Ws r N) (h1 : ∀ ρ S, N.nx ρ S → N'.nx ρ S) (h2 : ∀ d S, N.rt d S → N'.rt d S) (h3 : ∀ c ρ S, N.ex c ρ S → N'.ex c ρ S) (h4 : ∀ ρ S, N.bk ρ S → N'.bk ρ S) (h5 : ∀ ρ S, N.ct ρ S → N'.ct ρ S) : Ws r N' := by
  cases r with
  | nx ρ S => exact h1 _ _ h
  | rt d S => exact h2 _ _ h
  | ex c ρ S => exact h3 _ _ _ h
  | bk ρ S => exact h4 _ _ h
  | ct ρ S => exact h5 _ _ h
  | no => exact h
theorem ws_seq {a b : SF} (h : Ws (a ρ S) { N with nx := fun ρ' S' => Ws (b ρ' S') N }) : Ws (sSeq a b ρ S) N := by
  unfold sSeq
  cases e : a ρ S <;> rw [e] at h <;> exact h
@[simp] theorem ws_seq_eq {a b : SF} : Ws (sSeq a b ρ S) N = Ws (a ρ S) { N with nx := fun ρ' S' => Ws (b ρ' S') N } := by
  unfold sSeq
  cases a ρ S <;> rfl
/-- the next statement, whose behaviour is known -/
theorem ws_step {a b : SF} {ρ' : Lc} {S' : Sto} (h : a ρ S = .nx ρ' S') (q : Ws (b ρ' S') N) : Ws (sSeq a b ρ S) N := by
  unfold sSeq; rw [h]; exact q
end
section
variable {N n : Nat} {b : SF} {ds : List D} {S : Sto} {Q : D → Sto → Prop} {E : Str → Sto → Prop}
/-- a call: what its body must do -/
def endP (S : Sto) (Q : D → Sto → Prop) (E : Str → Sto → Prop) : Pq where
  nx := fun _ S' => ∃ T X, S' = T ++ X ∧ Kp S T ∧ Q .non T
  rt := fun d S' => ∃ T X e, S' = T ++ X ∧ Kp S T ∧ frz S.length S' 40 d = some e ∧ Q e T
  ex := fun c _ S' => ∃ T X, S' = T ++ X ∧ Kp S T ∧ E c T
  bk := fun _ _ => False
  ct := fun _ _ => False
theorem wp_run (h : Ws (b (ds.map some ++ List.replicate (N - n) none) S) (endP S Q E)) : Wp (runF N n b ds S) Q E := by
  unfold runF runK
  cases e : b (ds.map some ++ List.replicate (N - n) none) S with
  | rt d S' =>
    rw [e] at h
    obtain ⟨T, X, d', rfl, k, f, q⟩ := h
    simp only [endR, dropR, f, k.drop]
    exact q
  | nx ρ S' =>
    rw [e] at h
    obtain ⟨T, X, rfl, k, q⟩ := h
    simp only [endR, dropR, k.drop, frz]
    exact q
  | ex c ρ S' =>
    rw [e] at h
    obtain ⟨T, X, rfl, k, q⟩ := h
    simp only [endR, dropR, k.drop]
    exact q
  | bk ρ S' => rw [e] at h; exact h.elim
  | ct ρ S' => rw [e] at h; exact h.elim
  | no => rw [e] at h; exact h.elim
/-- the same, for a def that keeps what it made -/
theorem wp_runK (h : Ws (b (ds.map some ++ List.replicate (N - n) none) S) ⟨fun _ S' => Q .non S', Q, fun c _ S' => E c S', fun _ _ => False, fun _ _ => False⟩) : Wp (runK N n b ds S) Q E := by
  unfold runK
  cases e : b (ds.map some ++ List.replicate (N - n) none) S <;> rw [e] at h <;> exact h
theorem end_pure0 {d : D} (hd : Pl 40 d) (q : Q d S) : (endP S Q E).rt d S := ⟨S, [], d, by simp, .rfl', frz_pl 40 d hd, q⟩
/-- a pure def, by equations -/
theorem run_eq {d : D} {X : Sto} (h : b (ds.map some ++ List.replicate (N - n) none) S = .rt d (S ++ X)) (hd : Pl 40 d) : runF N n b ds S = .ok d S := by
  have hd' := frz_pl (n := S.length) (S := S ++ X) 40 d hd
  unfold runF runK
  rw [h]
  simp only [endR, dropR, hd', Kp.rfl'.drop]
theorem run_eq0 {d : D} (h : b (ds.map some ++ List.replicate (N - n) none) S = .rt d S) (hd : Pl 40 d) : runF N n b ds S = .ok d S := run_eq (X := []) (by simpa using h) hd
theorem run_ex {c : Str} {ρ : Lc} {X : Sto} (h : b (ds.map some ++ List.replicate (N - n) none) S = .ex c ρ (S ++ X)) : runF N n b ds S = .ex c S := by
  unfold runF runK
  rw [h]
  simp only [endR, dropR, Kp.rfl'.drop]
theorem run_ex0 {c : Str} {ρ : Lc} (h : b (ds.map some ++ List.replicate (N - n) none) S = .ex c ρ S) : runF N n b ds S = .ex c S := run_ex (ρ := ρ) (X := []) (by simpa using h)
/-- from what is wanted to an equation -/
theorem eq_of_wp {α : Type} {r : Res α} {v : α} (h : Wp r (fun a S' => a = v ∧ S' = S) fun _ _ => False) : r = .ok v S := by
  obtain ⟨a, S', e, rfl, rfl⟩ := h.get
  exact e
end
end DV
set_option Elab.async false
set_option linter.all false
set_option maxRecDepth 100000
namespace DV
open PySem L2
@[simp] theorem bind_ok {α β : Type} (a : α) (S : Sto) (k : α → Sto → Res β) : (Res.ok a S).bind k = k a S := rfl
@[simp] theorem bind_no {α β : Type} (k : α → Sto → Res β) : (Res.no : Res α).bind k = .no := rfl
@[simp] theorem bind_ex {α β : Type} (c : Str) (S : Sto) (k : α → Sto → Res β) : (Res.ex c S : Res α).bind k = .ex c S := rfl
@[simp] theorem sb_ok {α : Type} (a : α) (S : Sto) (ρ : Lc) (k : α → Sto → SR) : (Res.ok a S).sb ρ k = k a S := rfl
@[simp] theorem sb_no {α : Type} (ρ : Lc) (k : α → Sto → SR) : (Res.no : Res α).sb ρ k = .no := rfl
@[simp] theorem sb_ex {α : Type} (c : Str) (S : Sto) (ρ : Lc) (k : α → Sto → SR) : (Res.ex c S : Res α).sb ρ k = .ex c ρ S := rfl
section
variable (ρ : Lc) (S : Sto)
@[simp] theorem eC_eq (d : D) : eC d ρ S = .ok d S := rfl
@[simp] theorem eVar_0 (d : D) : eVar 0 (some d :: ρ) S = .ok d S := rfl
@[simp] theorem eVar_s (i : Nat) (o : Option D) : eVar (i + 1) (o :: ρ) S = eVar i ρ S := rfl
@[simp] theorem aNil_eq : aNil ρ S = .ok [] S := rfl
@[simp] theorem aCons_eq (a : EF) (r : AF) : aCons a r ρ S = (a ρ S).bind fun x S1 => (r ρ S1).bind fun xs S2 => .ok (x :: xs) S2 := rfl
@[simp] theorem eOp_eq (o : OF) (a b : EF) : eOp o a b ρ S = (a ρ S).bind fun x S1 => (b ρ S1).bind fun y S2 => o x y S2 := rfl
@[simp] theorem eCall_eq (F : FF) (a : AF) : eCall F a ρ S = (a ρ S).bind fun ds S1 => F ds S1 := rfl
@[simp] theorem eB_eq (F : FF) (a : AF) : eB F a ρ S = (a ρ S).bind fun ds S1 => F ds S1 := rfl
@[simp] theorem eNeg_eq (a : EF) : eNeg a ρ S = (a ρ S).bind fun d S1 => match d with | .int i => .ok (.int (-i)) S1 | _ => .no := rfl
@[simp] theorem eNot_eq (a : EF) : eNot a ρ S = (a ρ S).bind fun d S1 => match truD d S1 with | some k => .ok (.bl (!k)) S1 | none => .no := rfl
@[simp] theorem eAnd_eq (a b : EF) : eAnd a b ρ S = (a ρ S).bind fun d S1 => match truD d S1 with | some true => b ρ S1 | some false => .ok d S1 | none => .no := rfl
@[simp] theorem eOr_eq (a b : EF) : eOr a b ρ S = (a ρ S).bind fun d S1 => match truD d S1 with | some true => .ok d S1 | some false => b ρ S1 | none => .no := rfl
@[simp] theorem eIf_eq (c : TF) (a b : EF) : eIf c a b ρ S = (c ρ S).bind fun k S1 => if k = true then a ρ S1 else b ρ S1 := rfl
@[simp] theorem tTru_eq (a : EF) : tTru a ρ S = (a ρ S).bind fun d S1 => match truD d S1 with | some k => .ok k S1 | none => .no := rfl
@[simp] theorem bAnd_eq (a b : TF) : bAnd a b ρ S = (a ρ S).bind fun k S1 => if k = true then b ρ S1 else .ok false S1 := rfl
@[simp] theorem bOr_eq (a b : TF) : bOr a b ρ S = (a ρ S).bind fun k S1 => if k = true then .ok true S1 else b ρ S1 := rfl
@[simp] theorem bNot_eq (a : TF) : bNot a ρ S = (a ρ S).bind fun k S1 => .ok (!k) S1 := rfl
@[simp] theorem cYes_eq : cYes ρ S = .ok true S := rfl
@[simp] theorem eTup_eq (a : AF) : eTup a ρ S = (a ρ S).bind fun ds S1 => if szOk ds.length then .ok (.tup ds) S1 else .no := rfl
@[simp] theorem eLst_eq (a : AF) : eLst a ρ S = (a ρ S).bind fun ds S1 => if szOk ds.length then .ok (.lst ds) S1 else .no := rfl
@[simp] theorem eLstS_eq (a : AF) : eLstS a ρ S = (a ρ S).bind fun ds S1 => if szOk ds.length then .ok (.ob S1.length) (S1 ++ [.lst ds]) else .no := rfl
@[simp] theorem eSl_eq (a : EF) (lo hi : PF) : eSl a lo hi ρ S = (a ρ S).bind fun d S1 => (lo ρ S1).bind fun l S2 => (hi ρ S2).bind fun u S3 => oSl d l u S3 := rfl
@[simp] theorem eSlS_eq (a : EF) (lo hi : PF) : eSlS a lo hi ρ S = (a ρ S).bind fun d S1 => (lo ρ S1).bind fun l S2 => (hi ρ S2).bind fun u S3 => oSlS d l u S3 := rfl
@[simp] theorem pNo_eq : pNo ρ S = .ok none S := rfl
@[simp] theorem pAt_eq (a : EF) : pAt a ρ S = (a ρ S).bind fun d S1 => match d with | .int i => .ok (some i) S1 | _ => .no := rfl
@[simp] theorem eApp_eq (a b : EF) : eApp a b ρ S = (a ρ S).bind fun l S1 => match l with
  | .ob n => (match S1[n]? with
    | some (.lst _) => (b ρ S1).bind fun d S2 => (match S2[n]? with
      | some (.lst xs) => if szOk xs.length then .ok .non (S2.set n (.lst (xs ++ [d]))) else .no
      | _ => .no)
    | _ => .no)
  | _ => .no := rfl
@[simp] theorem eIs_eq (a : EF) (b : String) : eIs a b ρ S = (a ρ S).bind fun d S1 => match isD d S1 b with
  | some k => .ok (.bl k) S1
  | none => .no := rfl
@[simp] theorem eIs2_eq (a : EF) (b c : String) : eIs2 a b c ρ S = (a ρ S).bind fun d S1 => match tyD d S1 with
  | some t => (match kitB t b, kitB t c with
    | some k, some l => .ok (.bl (k || l)) S1
    | _, _ => .no)
  | none => .no := rfl
@[simp] theorem eFld_eq (c f : Str) (a : EF) : eFld c f a ρ S = (a ρ S).bind fun d S1 => match insOf c d S1 with
  | some (ks, vs) => (match lookK f ks vs with
    | some x => .ok x S1
    | none => .no)
  | none => .no := rfl
@[simp] theorem eDGet_eq (a b : EF) : eDGet a b ρ S = (a ρ S).bind fun x S1 => (b ρ S1).bind fun y S2 => match getX x y S2 with
  | some (some d) => .ok d S2
  | _ => .no := rfl
@[simp] theorem eMakeS_eq (c : Str) (F : FF) (ga : AF) : eMakeS c F ga ρ S = (ga ρ S).bind fun ds S1 => makeR c F ds S1 := rfl
@[simp] theorem eMeth_eq (c m : Str) (F : FF) (a : EF) (ga : AF) : eMeth c m F a ga ρ S = (a ρ S).bind fun d S1 => match insOf c d S1 with
  | some (ks, vs) => if (lookK m ks vs).isSome then .no else (ga ρ S1).bind fun ds S2 => (F (d :: ds) S2).noex
  | none => .no := rfl
@[simp] theorem eDctS_eq : eDctS ρ S = .ok (.ob S.length) (S ++ [.dic []]) := rfl
@[simp] theorem eDttS_eq : eDttS ρ S = .ok (.ob S.length) (S ++ [.dtt []]) := rfl
@[simp] theorem eSet0S_eq : eSet0S ρ S = .ok (.ob S.length) (S ++ [.set []]) := rfl
@[simp] theorem eS0_eq (g : Str → Bool) (a : EF) : eS0 g a ρ S = (a ρ S).bind fun d S1 => match d with
  | .str s => .ok (.bl (g s)) S1
  | _ => .no := rfl
@[simp] theorem iSeq_eq (a : EF) : iSeq a ρ S = (a ρ S).bind fun d S1 => match d with
  | .tup xs => .ok (.tup xs) S1
  | .str s => .ok (.str s) S1
  | .lst xs => .ok (.vlst xs) S1
  | .ob n => match S1[n]? with | some (.lst _) => .ok (.lst n) S1 | _ => .no
  | _ => .no := rfl
@[simp] theorem iRng_eq (a : AF) : iRng a ρ S = (a ρ S).bind fun ds S1 => match ds with
  | [.int j] => if gd (-(2 ^ 62) ≤ j ∧ j < 2 ^ 62) then .ok (.rng 0 j.toNat) S1 else .no
  | [.int i, .int j] => if gd (-(2 ^ 62) ≤ i ∧ i < 2 ^ 62 ∧ -(2 ^ 62) ≤ j ∧ j < 2 ^ 62) then .ok (.rng i (j - i).toNat) S1 else .no
  | _ => .no := rfl
@[simp] theorem iZip_eq (a : AF) : iZip a ρ S = (a ρ S).bind fun ds S1 => match ds with
  | [.tup xs, .tup ys] => .ok (.zipT xs ys) S1
  | [.lst xs, .lst ys] => .ok (.zipV xs ys) S1
  | [.lst xs, .ob n] => match S1[n]? with | some (.lst _) => .ok (.zipO xs n) S1 | _ => .no
  | _ => .no := rfl
@[simp] theorem sRet_eq (a : EF) : sRet a ρ S = (a ρ S).sb ρ fun d S1 => .rt d S1 := rfl
@[simp] theorem sNil_eq : sNil ρ S = .nx ρ S := rfl
@[simp] theorem sRaise_eq (c : Str) : sRaise c ρ S = .ex c ρ S := rfl
@[simp] theorem sExpr_eq (a : EF) : sExpr a ρ S = (a ρ S).sb ρ fun _ S1 => .nx ρ S1 := rfl
@[simp] theorem sIf_eq (c : TF) (a b : SF) : sIf c a b ρ S = (c ρ S).sb ρ fun k S1 => if k = true then a ρ S1 else b ρ S1 := rfl
@[simp] theorem sAsg_nm (i : Nat) (a : EF) : sAsg (.nm i) a ρ S = (a ρ S).sb ρ fun d S1 => .nx (ρ.set i (some d)) S1 := by
  unfold sAsg
  rfl
@[simp] theorem sAsg_tp (ts : List Tg) (a : EF) : sAsg (.tp ts) a ρ S = (a ρ S).sb ρ fun d S1 => match Tg.put (.tp ts) d ρ S1 with | some ρ' => .nx ρ' S1 | none => .no := rfl
@[simp] theorem sPar_eq (i j : Nat) (a : AF) : sPar i j a ρ S = (a ρ S).sb ρ fun ds S1 => match ds with | [x, y] => .nx ((ρ.set i (some x)).set j (some y)) S1 | _ => .no := rfl
@[simp] theorem sPar3_eq (i j l : Nat) (a : AF) : sPar3 i j l a ρ S = (a ρ S).sb ρ fun ds S1 => match ds with | [x, y, z] => .nx (((ρ.set i (some x)).set j (some y)).set l (some z)) S1 | _ => .no := rfl
@[simp] theorem sFor_eq (a : IF) (t : Tg) (b : SF) : sFor a t b ρ S = (a ρ S).sb ρ fun it S1 => forGo it t b (it.size S1) 0 ρ S1 := rfl
@[simp] theorem sFld_eq (c f : Str) (a e : EF) : sFld c f a e ρ S = (e ρ S).sb ρ fun v S1 => (a ρ S1).sb ρ fun d S2 => match putI c f d v S2 with
  | some S3 => .nx ρ S3
  | none => .no := rfl
@[simp] theorem sDPutD_eq (o i a : EF) : sDPutD o i a ρ S = (a ρ S).sb ρ fun v S1 => (o ρ S1).sb ρ fun d S2 => (i ρ S2).sb ρ fun k S3 => match putX d k v S3 with
  | some T => .nx ρ T
  | none => .no := rfl
@[simp] theorem put_nm (i : Nat) (d : D) : Tg.put (.nm i) d ρ S = some (ρ.set i (some d)) := by simp [Tg.put]
@[simp] theorem put_tp (ts : List Tg) (ds : List D) : Tg.put (.tp ts) (.tup ds) ρ S = Tg.puts ts ds ρ S := by simp [Tg.put, seqOf]
@[simp] theorem put_tpl (ts : List Tg) (ds : List D) : Tg.put (.tp ts) (.lst ds) ρ S = Tg.puts ts ds ρ S := by simp [Tg.put, seqOf, lstOf]
@[simp] theorem puts_nil : Tg.puts [] [] ρ S = some ρ := by simp [Tg.puts]
@[simp] theorem puts_cons (t : Tg) (ts : List Tg) (d : D) (ds : List D) : Tg.puts (t :: ts) (d :: ds) ρ S = match Tg.put t d ρ S with | some ρ' => Tg.puts ts ds ρ' S | none => none := by
  simp only [Tg.puts]
  try (cases Tg.put t d ρ S <;> rfl)
end
section
variable (S : Sto) (i j : Int)
@[simp] theorem oAdd_int : oAdd (.int i) (.int j) S = .ok (.int (i + j)) S := rfl
@[simp] theorem oSub_int : oSub (.int i) (.int j) S = .ok (.int (i - j)) S := rfl
@[simp] theorem oLt_int : oLt (.int i) (.int j) S = .ok (.bl (decide (i < j))) S := rfl
@[simp] theorem oLe_int : oLe (.int i) (.int j) S = .ok (.bl (decide (i ≤ j))) S := rfl
@[simp] theorem oGt_int : oGt (.int i) (.int j) S = .ok (.bl (decide (j < i))) S := rfl
@[simp] theorem oGt_bli (b : Bool) : oGt (.bl b) (.int j) S = .ok (.bl (decide (j < (if b = true then 1 else 0)))) S := rfl
@[simp] theorem oGe_int : oGe (.int i) (.int j) S = .ok (.bl (decide (j ≤ i))) S := rfl
@[simp] theorem oMul_if : oMul (.int i) (.int j) S = if mulOk i j = true then .ok (.int (i * j)) S else .no := rfl
@[simp] theorem oDiv_if : oDiv (.int i) (.int j) S = if divOk i j = true then .ok (.int (i.fdiv j)) S else .no := by
  unfold oDiv oI
  by_cases h : divOk i j = true <;> simp [h]
theorem oMul_int {i j : Int} (S : Sto) (h : mulOk i j = true) : oMul (.int i) (.int j) S = .ok (.int (i * j)) S := by
  show (if mulOk i j = true then _ else _) = _
  rw [if_pos h]
theorem oDiv_int {i j : Int} (S : Sto) (h : divOk i j = true) : oDiv (.int i) (.int j) S = .ok (.int (i.fdiv j)) S := by simp [h]
@[simp] theorem oMod_if : oMod (.int i) (.int j) S = if gd (0 < j) = true then .ok (.int (i % j)) S else .no := by
  unfold oMod oI
  by_cases h : gd (0 < j) = true <;> simp [h]
@[simp] theorem oPow_if : oPow (.int i) (.int j) S = if gd (0 ≤ j ∧ j ≤ 1000000 ∧ i.natAbs < 2 ^ 64) = true then .ok (.int (i ^ j.toNat)) S else .no := by
  unfold oPow oI
  by_cases h : gd (0 ≤ j ∧ j ≤ 1000000 ∧ i.natAbs < 2 ^ 64) = true <;> simp [h]
@[simp] theorem gd_iff {p : Prop} : (gd p = true) = p := propext ⟨of_gd, gd_of⟩
@[simp] theorem oIx_tup (xs : List D) : oIx (.tup xs) (.int i) S = match atI xs i with | some d => .ok d S | none => .no := rfl
@[simp] theorem oIx_lst (xs : List D) : oIx (.lst xs) (.int i) S = match atI xs i with | some d => .ok d S | none => .no := rfl
@[simp] theorem oIx_ob (n : Nat) : oIx (.ob n) (.int i) S = match lstOf (.ob n) S with
    | some xs => match atI xs i with | some d => .ok d S | none => .no
    | none => .no := rfl
@[simp] theorem oAdd_tup (xs ys : List D) : oAdd (.tup xs) (.tup ys) S = if szOk (xs.length + ys.length) then .ok (.tup (xs ++ ys)) S else .no := rfl
@[simp] theorem oAdd_lst (xs ys : List D) : oAdd (.lst xs) (.lst ys) S = if szOk (xs.length + ys.length) then .ok (.lst (xs ++ ys)) S else .no := by
  simp only [oAdd, catD, lstOf]
  by_cases h : szOk (xs.length + ys.length) = true <;> simp [h]
@[simp] theorem oAdd_str (x y : Str) : oAdd (.str x) (.str y) S = if szOk (x.length + y.length) then .ok (.str (x ++ y)) S else .no := rfl
@[simp] theorem szOk_le {n : Nat} : (szOk n = true) = (n ≤ 1000000) := propext ⟨fun h => of_gd h, fun h => gd_of h⟩
@[simp] theorem truD_bl (b : Bool) : truD (.bl b) S = some b := rfl
@[simp] theorem truD_int : truD (.int i) S = some (i != 0) := rfl
@[simp] theorem truD_non : truD .non S = some false := rfl
@[simp] theorem truD_tup (xs : List D) : truD (.tup xs) S = some (!xs.isEmpty) := rfl
@[simp] theorem truD_lst (xs : List D) : truD (.lst xs) S = some (!xs.isEmpty) := rfl
@[simp] theorem cGcd_int : cGcd [.int i, .int j] S = .ok (.int ((Nat.gcd i.natAbs j.natAbs : Nat) : Int)) S := rfl
@[simp] theorem cAbs_int : cAbs [.int i] S = .ok (.int (if i < 0 then -i else i)) S := rfl
@[simp] theorem cLen_tup (xs : List D) : cLen [.tup xs] S = .ok (.int xs.length) S := rfl
@[simp] theorem cLen_lst (xs : List D) : cLen [.lst xs] S = .ok (.int xs.length) S := rfl
@[simp] theorem cInt_int : cInt [.int i] S = .ok (.int i) S := rfl
@[simp] theorem cInt_bl (b : Bool) : cInt [.bl b] S = .ok (.int (if b then 1 else 0)) S := rfl
@[simp] theorem cMin_int : cMin [.int i, .int j] S = .ok (.int (if j < i then j else i)) S := rfl
@[simp] theorem cMax_int : cMax [.int i, .int j] S = .ok (.int (if j > i then j else i)) S := rfl
@[simp] theorem cDivmod_int : cDivmod [.int i, .int j] S = if divOk i j && gd (0 < j) then .ok (.tup [.int (i / j), .int (i % j)]) S else .no := rfl
@[simp] theorem cList_tup (xs : List D) : cList [.tup xs] S = .ok (.lst xs) S := rfl
@[simp] theorem cList_lst (xs : List D) : cList [.lst xs] S = .ok (.lst xs) S := rfl
end
/-- from bounds by powers of two -/
theorem mulOk_of {i j : Int} {a b : Nat} (ha : i.natAbs < 2 ^ a) (hb : j.natAbs < 2 ^ b) (h : a + b ≤ 134217728) : mulOk i j = true := by
  have x := PyProof.Rows.intBits_le ha
  have y := PyProof.Rows.intBits_le hb
  exact gd_of (by omega)
theorem divOk_of {i j : Int} {b : Nat} (h : j ≠ 0) (hb : j.natAbs < 2 ^ b) (h9 : b ≤ 9000) : divOk i j = true := by
  refine gd_of ⟨h, PyProof.noPylong_of_log2 (show j.natAbs.log2 < 9000 from ?_)⟩
  have hn : j.natAbs ≠ 0 := by omega
  have := (Nat.log2_lt hn).mpr hb
  omega
theorem divOk_any {i j : Int} (hj : j ≠ 0) (hi : i.natAbs < 2 ^ 13000) : divOk i j = true := by
  refine gd_of ⟨hj, ?_⟩
  by_cases h : j.natAbs.log2 < 9000
  · exact PyProof.noPylong_of_log2 h
  · have h1 : i.natAbs.log2 < 13000 := PySem.Flt.log2_lt_of (by decide) hi
    show (decide ((if j == 0 then 0 else j.natAbs.log2 / 30 + 1) > 300) && decide ((if i == 0 then 0 else i.natAbs.log2 / 30 + 1) > (if j == 0 then 0 else j.natAbs.log2 / 30 + 1) + 150)) = false
    rw [if_neg (show ¬ (j == 0) = true by simpa using hj)]
    have k : ¬ ((if i == 0 then 0 else i.natAbs.log2 / 30 + 1) > j.natAbs.log2 / 30 + 1 + 150) := by
      split <;> omega
    rw [decide_eq_false k, Bool.and_false]
theorem atI_cast {α : Type} (l : List α) (j : Nat) : atI l (j : Int) = l[j]? := by
  unfold atI ixN
  rw [if_pos (Int.natCast_nonneg j)]
  by_cases h : j < l.length
  · rw [if_pos (by omega)]; simp
  · rw [if_neg (by omega)]
    simp only [Option.bind_none]
    exact (List.getElem?_eq_none (by omega)).symm
@[simp] theorem atI_0 {α : Type} (l : List α) : atI l 0 = l[0]? := atI_cast l 0
@[simp] theorem atI_1 {α : Type} (l : List α) : atI l 1 = l[1]? := atI_cast l 1
@[simp] theorem atI_2 {α : Type} (l : List α) : atI l 2 = l[2]? := atI_cast l 2
@[simp] theorem atI_3 {α : Type} (l : List α) : atI l 3 = l[3]? := atI_cast l 3
@[simp] theorem atI_4 {α : Type} (l : List α) : atI l 4 = l[4]? := atI_cast l 4
@[simp] theorem atI_5 {α : Type} (l : List α) : atI l 5 = l[5]? := atI_cast l 5
@[simp] theorem atI_6 {α : Type} (l : List α) : atI l 6 = l[6]? := atI_cast l 6
@[simp] theorem atI_7 {α : Type} (l : List α) : atI l 7 = l[7]? := atI_cast l 7
theorem atI_at {α : Type} {l : List α} {v : Int} (h0 : 0 ≤ v) (h1 : v < l.length) : ∃ (j : Nat) (h : j < l.length), v = j ∧ atI l v = some l[j] := by
  obtain ⟨j, rfl⟩ : ∃ j : Nat, v = j := ⟨v.toNat, (Int.toNat_of_nonneg h0).symm⟩
  exact ⟨j, by omega, rfl, by rw [atI_cast, List.getElem?_eq_getElem (by omega)]⟩
theorem atI_mem {α : Type} {l : List α} {v : Int} (h0 : 0 ≤ v) (h1 : v < l.length) : ∃ x ∈ l, atI l v = some x := by
  obtain ⟨j, h, _, e⟩ := atI_at h0 h1
  exact ⟨_, List.getElem_mem h, e⟩
theorem seq_nx {a : SF} {ρ ρ' : Lc} {S S' : Sto} (h : a ρ S = .nx ρ' S') (b : SF) : sSeq a b ρ S = b ρ' S' := by simp only [sSeq, h]
theorem seq_rt {a : SF} {ρ : Lc} {d : D} {S S' : Sto} (h : a ρ S = .rt d S') (b : SF) : sSeq a b ρ S = .rt d S' := by simp only [sSeq, h]
theorem seq_ex {a : SF} {ρ ρ' : Lc} {c : Str} {S S' : Sto} (h : a ρ S = .ex c ρ' S') (b : SF) : sSeq a b ρ S = .ex c ρ' S' := by simp only [sSeq, h]
theorem oMod_int {i j : Int} (S : Sto) (h : 0 < j) : oMod (.int i) (.int j) S = .ok (.int (i % j)) S := by simp [h]
theorem oPow_int {i j : Int} (S : Sto) (h : 0 ≤ j ∧ j ≤ 1000000 ∧ i.natAbs < 2 ^ 64) : oPow (.int i) (.int j) S = .ok (.int (i ^ j.toNat)) S := by rw [oPow_if, if_pos (gd_of h)]
section
variable {S E : Sto} {a x : O} {k : Nat}
@[simp] theorem sto_0 : (S ++ a :: E)[S.length]? = some a := by simp
@[simp] theorem sto_k : (S ++ E)[S.length + k]? = E[k]? := by rw [List.getElem?_append_right (by omega)]; congr 1; omega
@[simp] theorem sto_set0 : (S ++ a :: E).set S.length x = S ++ x :: E := by rw [List.set_append_right _ _ (Nat.le_refl _)]; simp
@[simp] theorem sto_setk : (S ++ E).set (S.length + k) x = S ++ E.set k x := by rw [List.set_append_right _ _ (by omega)]; congr 2; omega
end
@[simp] theorem lstOf_lst (xs : List D) (S : Sto) : lstOf (.lst xs) S = some xs := rfl
theorem lstOf_ob {n : Nat} {xs : List D} {S : Sto} (h : S[n]? = some (.lst xs)) : lstOf (.ob n) S = some xs := by simp only [lstOf, h]
@[simp] theorem lstOf_at {S E : Sto} {xs : List D} : lstOf (.ob S.length) (S ++ .lst xs :: E) = some xs := lstOf_ob sto_0
@[simp] theorem cLen_ob0 {S E : Sto} {xs : List D} : cLen [.ob S.length] (S ++ .lst xs :: E) = .ok (.int xs.length) (S ++ .lst xs :: E) := by simp only [cLen, lstOf_at]
@[simp] theorem isD_eq (d : D) (S : Sto) (b : String) : isD d S b = match tyD d S with
  | some t => kitB t b
  | none => none := rfl
end DV
set_option Elab.async false
set_option linter.all false
set_option maxRecDepth 100000
namespace Fx
open PySem L2 DV
def penO (ns : List Int) (p : Int × Int) : O := .lst [.lst (ns.map D.int), .int p.1, .int p.2]
/-- a store with the pen, ahead of all else -/
abbrev Pn (ns : List Int) (p : Int × Int) (T : Sto) : Sto := penO ns p :: T
/-- at most so many draws are behind -/
def Pk (p : Int × Int) (k : Nat) : Prop := 0 ≤ p.1 ∧ p.1 ≤ k
theorem Pk.mono {p : Int × Int} {j k : Nat} (h : Pk p j) (hk : j ≤ k) : Pk p k := ⟨h.1, by have := h.2; omega⟩
theorem frz_ints {n k : Nat} {S : Sto} : ∀ ns : List Int, frzs n S (k + 2) (ns.map D.int) = some (ns.map D.int)
  | [] => by simp [frzs]
  | x :: ns => by
    have := frz_ints (n := n) (k := k) (S := S) ns
    simp only [List.map_cons, frzs, this]
    simp [frz]
theorem fz_pen {n : Nat} {ns : List Int} {p : Int × Int} : Fz n (penO ns p) := fun S => by
  have h := frz_ints (n := n) (k := 36) (S := S) ns
  simp [penO, frzO, frzs, frz, h]
theorem kp_pen {ns : List Int} {p p' : Int × Int} {T : Sto} : Kp (Pn ns p T) (Pn ns p' T) := ⟨by simp, fun i o h => by
  cases i with
  | zero => simp at h; subst h; exact .inr fz_pen
  | succ i => exact .inl (by simpa using h)⟩
theorem modB (x : Int) {p : Int} (hp : 0 < p) : 0 ≤ x % p ∧ x % p < p := ⟨Int.emod_nonneg _ (by omega), Int.emod_lt_of_pos _ hp⟩
theorem p18 : ∀ S, oPow (.int 10) (.int 18) S = .ok (.int 1000000000000000000) S := fun S => by
  have : gd ((0 : Int) ≤ 18 ∧ (18 : Int) ≤ 1000000 ∧ (10 : Int).natAbs < 2 ^ 64) = true := gd_of (by decide)
  simp only [oPow_if, this, if_true]
  rfl
theorem p6 : ∀ S, oPow (.int 10) (.int 6) S = .ok (.int 1000000) S := fun S => by
  have : gd ((0 : Int) ≤ 6 ∧ (6 : Int) ≤ 1000000 ∧ (10 : Int).natAbs < 2 ^ 64) = true := gd_of (by decide)
  simp only [oPow_if, this, if_true]
  rfl
section
variable {ns : List Int} {p : Int × Int} {T : Sto} {m : Int} {k : Nat} {o2 o3 o4 o5 : Option D}
abbrev ρd (m : Int) (o2 o3 o4 o5 : Option D) : Lc := [some (.ob 0), some (.int m), o2, o3, o4, o5]
theorem draw0 (hr : ¬ 0 < p.2) : c_l_draw_0 (ρd m o2 o3 o4 o5) (Pn ns p T) = .nx (ρd m o2 o3 o4 o5) (Pn ns p T) := by
  simp [c_l_draw_0, penO, lstOf, hr]
theorem draw0r (hr : 0 < p.2) (hm : 0 < m) (dm : ∀ x, divOk x m = true) : c_l_draw_0 (ρd m o2 o3 o4 o5) (Pn ns p T) = .rt (.int (p.2 % m)) (Pn ns (p.1, p.2.fdiv m) T) := by
  simp [c_l_draw_0, sSeq, sSub, penO, lstOf, hr, hm, dm, ixN]
theorem draw1 : c_l_draw_1 (ρd m o2 o3 o4 o5) (Pn ns p T) = .nx (ρd m o2 (some (.int p.1)) o4 o5) (Pn ns p T) := by
  simp [c_l_draw_1, penO, lstOf]
theorem draw2 : c_l_draw_2 (ρd m o2 (some (.int p.1)) o4 o5) (Pn ns p T) = .nx (ρd m o2 (some (.int p.1)) o4 o5) (Pn ns (p.1 + 1, p.2) T) := by
  simp [c_l_draw_2, sSub, penO, lstOf, ixN]
theorem draw3 {a : Int} {S : Sto} : c_l_draw_3 (ρd m o2 (some (.int a)) o4 o5) S = .nx (ρd m o2 (some (.int a)) (some (.int 7)) o5) S := by
  simp [c_l_draw_3]
theorem draw4 {a : Int} (h3 : 0 ≤ a) : ∃ c : Int, c_l_draw_4 (ρd m o2 (some (.int a)) (some (.int 7)) o5) (Pn ns p T) = .nx (ρd m o2 (some (.int a)) (some (.int c)) o5) (Pn ns p T) := by
  by_cases hz : 0 < ns.length
  · have hz2 : (0 : Int) < ns.length := by omega
    have hc : ∃ c, atI (ns.map D.int) (a % (ns.length : Int)) = some (.int c) := by
      have h5 := Int.emod_nonneg a (show (ns.length : Int) ≠ 0 by omega)
      have h6 := Int.emod_lt_of_pos a hz2
      obtain ⟨j, hj⟩ : ∃ j : Nat, a % (ns.length : Int) = j := ⟨_, (Int.toNat_of_nonneg h5).symm⟩
      rw [hj, atI_cast, List.getElem?_map, List.getElem?_eq_getElem (by omega)]
      exact ⟨_, rfl⟩
    obtain ⟨c, hc⟩ := hc
    exact ⟨c, by simp [c_l_draw_4, penO, lstOf, hz, hz2, hc]⟩
  · exact ⟨7, by simp [c_l_draw_4, penO, lstOf, hz]⟩
theorem draw5 {a c : Int} (hm : 0 < m) (dm : ∀ x, divOk x m = true) :
    c_l_draw_5 (ρd m o2 (some (.int a)) (some (.int c)) o5) (Pn ns p T) = .nx (ρd m o2 (some (.int a)) (some (.int c)) o5) (Pn ns p T) ∨
    c_l_draw_5 (ρd m o2 (some (.int a)) (some (.int c)) o5) (Pn ns p T) = .rt (.int (c % m)) (Pn ns (p.1, c.fdiv m) T) := by
  by_cases hb1 : a < (ns.length : Int)
  · by_cases hb2 : 1000000000000000000 ≤ c
    · exact .inr (by simp [c_l_draw_5, sSeq, sSub, penO, lstOf, hb1, hb2, p18, hm, dm, ixN, -oPow_if])
    · exact .inl (by simp [c_l_draw_5, penO, lstOf, hb1, hb2, p18, -oPow_if])
  · exact .inl (by simp [c_l_draw_5, penO, lstOf, hb1, -oPow_if])
theorem draw6 {a c : Int} {S : Sto} (h3 : 0 ≤ a) (h4 : a ≤ 1000000000000) : ∃ x : Int, c_l_draw_6 (ρd m o2 (some (.int a)) (some (.int c)) o5) S = .nx (ρd m o2 (some (.int a)) (some (.int c)) (some (.int (x % 2147483647)))) S := by
  have haa : 0 ≤ a * a ∧ a * a ≤ 1000000000000 * 1000000000000 := ⟨Int.mul_nonneg h3 h3, Int.mul_le_mul h4 h4 h3 (by decide)⟩
  have g1 : mulOk (c % 2147483629 + 11) (a * a + 5 * a + 3) = true := by
    have := modB c (p := 2147483629) (by decide)
    exact mulOk_of (a := 40) (b := 90) (by omega) (by omega) (by decide)
  have g2 : mulOk a a = true := mulOk_of (a := 41) (b := 41) (by omega) (by omega) (by decide)
  have g3 : mulOk 5 a = true := mulOk_of (a := 41) (b := 41) (by omega) (by omega) (by decide)
  exact ⟨(c % 2147483629 + 11) * (a * a + 5 * a + 3), by simp [c_l_draw_6, g1, g2, g3]⟩
theorem draw7 {a c x : Int} {S : Sto} (h3 : 0 ≤ a) (h4 : a ≤ 1000000000000) : ∃ y : Int, c_l_draw_7 (ρd m o2 (some (.int a)) (some (.int c)) (some (.int (x % 2147483647)))) S = .nx (ρd m o2 (some (.int a)) (some (.int c)) (some (.int (y % 2147483399)))) S := by
  have h5 := modB x (p := 2147483647) (by decide)
  have g1 : (x % 2147483647).natAbs < 2 ^ 64 := by omega
  have g4 : mulOk 69621 a = true := mulOk_of (a := 41) (b := 41) (by omega) (by omega) (by decide)
  have g5 : ∀ x : Int, mulOk (x % 2147483587) 40692 = true := fun x => by
    have := modB x (p := 2147483587) (by decide)
    exact mulOk_of (a := 41) (b := 41) (by omega) (by omega) (by decide)
  exact ⟨((x % 2147483647) ^ 3 + 69621 * a) % 2147483587 * 40692, by simp [c_l_draw_7, g1, g4, g5, -Int.reducePow, -Nat.reducePow]⟩
theorem draw8 {a c y : Int} {S : Sto} : ∃ z : Int, c_l_draw_8 (ρd m o2 (some (.int a)) (some (.int c)) (some (.int (y % 2147483399)))) S = .nx (ρd m o2 (some (.int a)) (some (.int c)) (some (.int z))) S := by
  have h5 := modB y (p := 2147483399) (by decide)
  have g4 : mulOk (y % 2147483399) 2147483629 = true := mulOk_of (a := 41) (b := 41) (by omega) (by decide) (by decide)
  have g5 : ∀ x : Int, mulOk (x % 1000003) 48271 = true := fun x => by
    have := modB x (p := 1000003) (by decide)
    exact mulOk_of (a := 41) (b := 41) (by omega) (by omega) (by decide)
  by_cases h : 1000000 < m
  · exact ⟨y % 2147483399 * 2147483629 + y % 2147483399 % 1000003 * 48271 % 2147483587, by simp [c_l_draw_8, p6, g4, g5, h, -oPow_if]⟩
  · exact ⟨y % 2147483399, by simp [c_l_draw_8, p6, h, -oPow_if]⟩
theorem draw9 {a c z : Int} {S : Sto} (hm : 0 < m) : c_l_draw_9 (ρd m o2 (some (.int a)) (some (.int c)) (some (.int z))) S = .rt (.int ((z.fdiv 64) % m)) S := by
  have g : ∀ x : Int, divOk x 64 = true := fun x => divOk_of (b := 10) (by decide) (by decide) (by decide)
  simp [c_l_draw_9, g, hm]
theorem draw_eq (h : Pk p k) (hk : k ≤ 1000000000000) (hm : 0 < m) (hm2 : m.natAbs < 2 ^ 200) :
    ∃ v p', F_l_draw [.ob 0, .int m] (Pn ns p T) = .ok (.int v) (Pn ns p' T) ∧ 0 ≤ v ∧ v < m ∧ Pk p' (k + 1) := by
  obtain ⟨h3, h4⟩ := h
  have dm : ∀ x, divOk x m = true := fun x => divOk_of (by omega) hm2 (by decide)
  have fin : ∀ (x : Int) (p' : Int × Int), 0 ≤ p'.1 → p'.1 ≤ p.1 + 1 → b_l_draw (ρd m none none none none) (Pn ns p T) = .rt (.int (x % m)) (Pn ns p' T) →
      ∃ v p', F_l_draw [.ob 0, .int m] (Pn ns p T) = .ok (.int v) (Pn ns p' T) ∧ 0 ≤ v ∧ v < m ∧ Pk p' (k + 1) :=
    fun x p' h5 h6 e => by
      have w : Wp (F_l_draw [.ob 0, .int m] (Pn ns p T)) (fun d S => d = .int (x % m) ∧ S = Pn ns p' T) fun _ _ => False := by
        refine wp_run ?_
        show Ws (b_l_draw (ρd m none none none none) (Pn ns p T)) _
        rw [e]
        exact ⟨Pn ns p' T, [], .int (x % m), by simp, kp_pen, by simp [frz], rfl, rfl⟩
      obtain ⟨d, S, e, rfl, rfl⟩ := w.get
      exact ⟨_, _, e, (modB x hm).1, (modB x hm).2, h5, by omega⟩
  by_cases hr : 0 < p.2
  · refine fin p.2 (p.1, p.2.fdiv m) h3 (by show p.1 ≤ _; omega) ?_
    unfold b_l_draw
    simp only [sSeq, draw0r hr hm dm]
  · obtain ⟨c, e4⟩ := draw4 (ns := ns) (p := (p.1 + 1, p.2)) (T := T) (m := m) (o2 := none) (o5 := none) h3
    have pre : ∀ R, (sSeq c_l_draw_5 (sSeq c_l_draw_6 (sSeq c_l_draw_7 (sSeq c_l_draw_8 c_l_draw_9)))) (ρd m none (some (.int p.1)) (some (.int c)) none) (Pn ns (p.1 + 1, p.2) T) = R → b_l_draw (ρd m none none none none) (Pn ns p T) = R := fun R e => by
      unfold b_l_draw
      simp only [sSeq, draw0 hr, draw1, draw2, draw3, e4]
      simpa only [sSeq] using e
    rcases draw5 (ns := ns) (p := (p.1 + 1, p.2)) (T := T) (m := m) (a := p.1) (c := c) (o2 := none) (o5 := none) hm dm with e5 | e5
    · obtain ⟨x, e6⟩ := draw6 (S := Pn ns (p.1 + 1, p.2) T) (m := m) (a := p.1) (c := c) (o2 := none) (o5 := none) h3 (by omega)
      obtain ⟨y, e7⟩ := draw7 (S := Pn ns (p.1 + 1, p.2) T) (m := m) (a := p.1) (c := c) (x := x) (o2 := none) h3 (by omega)
      obtain ⟨z, e8⟩ := draw8 (S := Pn ns (p.1 + 1, p.2) T) (m := m) (a := p.1) (c := c) (y := y) (o2 := none)
      refine fin (z.fdiv 64) (p.1 + 1, p.2) (by show 0 ≤ p.1 + 1; omega) (Int.le_refl _) (pre _ ?_)
      simp only [sSeq, e5, e6, e7, e8, draw9 hm]
    · refine fin c (p.1 + 1, c.fdiv m) (by show 0 ≤ p.1 + 1; omega) (Int.le_refl _) (pre _ ?_)
      simp only [sSeq, e5]
/-- a draw -/
theorem wp_draw {Q : D → Sto → Prop} {E : Str → Sto → Prop} (h : Pk p k) (hk : k ≤ 1000000000000) (hm : 0 < m) (hm2 : m.natAbs < 2 ^ 200) (q : ∀ v p', 0 ≤ v → v < m → Pk p' (k + 1) → Q (.int v) (Pn ns p' T)) : Wp (F_l_draw [.ob 0, .int m] (Pn ns p T)) Q E := by
  obtain ⟨v, p', e, h1, h2, h3⟩ := draw_eq (ns := ns) (T := T) h hk hm hm2
  rw [e]; exact q v p' h1 h2 h3
end
end Fx
set_option Elab.async false
set_option linter.all false
set_option maxRecDepth 100000
namespace DV
open PySem L2
@[simp] theorem kb_NoneType_int : kitB "NoneType" "int" = some false := by decide +kernel
@[simp] theorem kb_NoneType_bool : kitB "NoneType" "bool" = some false := by decide +kernel
@[simp] theorem kb_NoneType_str : kitB "NoneType" "str" = some false := by decide +kernel
@[simp] theorem kb_NoneType_list : kitB "NoneType" "list" = some false := by decide +kernel
@[simp] theorem kb_NoneType_tuple : kitB "NoneType" "tuple" = some false := by decide +kernel
@[simp] theorem kb_bool_int : kitB "bool" "int" = some true := by decide +kernel
@[simp] theorem kb_bool_bool : kitB "bool" "bool" = some true := by decide +kernel
@[simp] theorem kb_bool_str : kitB "bool" "str" = some false := by decide +kernel
@[simp] theorem kb_bool_list : kitB "bool" "list" = some false := by decide +kernel
@[simp] theorem kb_bool_tuple : kitB "bool" "tuple" = some false := by decide +kernel
@[simp] theorem kb_int_int : kitB "int" "int" = some true := by decide +kernel
@[simp] theorem kb_int_bool : kitB "int" "bool" = some false := by decide +kernel
@[simp] theorem kb_int_str : kitB "int" "str" = some false := by decide +kernel
@[simp] theorem kb_int_list : kitB "int" "list" = some false := by decide +kernel
@[simp] theorem kb_int_tuple : kitB "int" "tuple" = some false := by decide +kernel
@[simp] theorem kb_str_int : kitB "str" "int" = some false := by decide +kernel
@[simp] theorem kb_str_bool : kitB "str" "bool" = some false := by decide +kernel
@[simp] theorem kb_str_str : kitB "str" "str" = some true := by decide +kernel
@[simp] theorem kb_str_list : kitB "str" "list" = some false := by decide +kernel
@[simp] theorem kb_str_tuple : kitB "str" "tuple" = some false := by decide +kernel
@[simp] theorem kb_tuple_int : kitB "tuple" "int" = some false := by decide +kernel
@[simp] theorem kb_tuple_bool : kitB "tuple" "bool" = some false := by decide +kernel
@[simp] theorem kb_tuple_str : kitB "tuple" "str" = some false := by decide +kernel
@[simp] theorem kb_tuple_list : kitB "tuple" "list" = some false := by decide +kernel
@[simp] theorem kb_tuple_tuple : kitB "tuple" "tuple" = some true := by decide +kernel
@[simp] theorem kb_list_int : kitB "list" "int" = some false := by decide +kernel
@[simp] theorem kb_list_bool : kitB "list" "bool" = some false := by decide +kernel
@[simp] theorem kb_list_str : kitB "list" "str" = some false := by decide +kernel
@[simp] theorem kb_list_list : kitB "list" "list" = some true := by decide +kernel
@[simp] theorem kb_list_tuple : kitB "list" "tuple" = some false := by decide +kernel
@[simp] theorem kb_dict_int : kitB "dict" "int" = some false := by decide +kernel
@[simp] theorem kb_dict_bool : kitB "dict" "bool" = some false := by decide +kernel
@[simp] theorem kb_dict_str : kitB "dict" "str" = some false := by decide +kernel
@[simp] theorem kb_dict_list : kitB "dict" "list" = some false := by decide +kernel
@[simp] theorem kb_dict_tuple : kitB "dict" "tuple" = some false := by decide +kernel
@[simp] theorem tyD_non (S : Sto) : tyD .non S = some "NoneType" := rfl
@[simp] theorem tyD_bl (b : Bool) (S : Sto) : tyD (.bl b) S = some "bool" := rfl
@[simp] theorem tyD_int (b : Int) (S : Sto) : tyD (.int b) S = some "int" := rfl
@[simp] theorem tyD_str (b : Str) (S : Sto) : tyD (.str b) S = some "str" := rfl
@[simp] theorem tyD_tup (b : List D) (S : Sto) : tyD (.tup b) S = some "tuple" := rfl
@[simp] theorem tyD_lst (b : List D) (S : Sto) : tyD (.lst b) S = some "list" := rfl
@[simp] theorem tyD_dct (b : List (Key × D)) (S : Sto) : tyD (.dct b) S = some "dict" := rfl
theorem shaped_of {d : PyData} (h1 : d.canLay0 = true) (h2 : d.depth ≤ 64) : SeqAt.shaped d = true := Bool.and_eq_true_iff.mpr ⟨h1, decide_eq_true h2⟩
@[simp] theorem shaped_bool (b : Bool) : SeqAt.shaped (.bool b) = true := by simp [SeqAt.shaped, PyData.canLay0, PyData.depth]
@[simp] theorem shaped_int (b : Int) : SeqAt.shaped (.int b) = true := by simp [SeqAt.shaped, PyData.canLay0, PyData.depth]
@[simp] theorem oEqG_bl2 (n a b : Bool) (S : Sto) : oEqG n (.bl a) (.bl b) S = .ok (.bl ((a == b) != n)) S := by
  simp [oEqG, pyOf, PyData.eqv]
@[simp] theorem oEqG_int2 (n : Bool) (a b : Int) (S : Sto) : oEqG n (.int a) (.int b) S = .ok (.bl ((a == b) != n)) S := by
  simp [oEqG, pyOf, PyData.eqv]
@[simp] theorem oEq_bl2 (a b : Bool) (S : Sto) : oEq (.bl a) (.bl b) S = .ok (.bl (a == b)) S := by simp [oEq]
@[simp] theorem oNe_bl2 (a b : Bool) (S : Sto) : oNe (.bl a) (.bl b) S = .ok (.bl (a != b)) S := by simp [oNe, bne]
@[simp] theorem oEq_int2 (a b : Int) (S : Sto) : oEq (.int a) (.int b) S = .ok (.bl (a == b)) S := by simp [oEq]
@[simp] theorem oNe_int2 (a b : Int) (S : Sto) : oNe (.int a) (.int b) S = .ok (.bl (a != b)) S := by simp [oNe, bne]
@[simp] theorem oIs_bl (d : D) (b : Bool) (S : Sto) : oIs d (.bl b) S = .ok (.bl (isBlD b d)) S := by simp [oIs, oIsG]
@[simp] theorem oIsnt_bl (d : D) (b : Bool) (S : Sto) : oIsnt d (.bl b) S = .ok (.bl (!isBlD b d)) S := by simp [oIsnt, oIsG]
@[simp] theorem oIsnt_non (d : D) (S : Sto) : oIsnt d .non S = match isNonD d with | some k => .ok (.bl (!k)) S | none => .no := by unfold oIsnt oIsG; cases isNonD d <;> simp
@[simp] theorem isBl_bl (b c : Bool) : isBlD b (.bl c) = decide (c = b) := rfl
@[simp] theorem isBl_int (b : Bool) (i : Int) : isBlD b (.int i) = false := rfl
@[simp] theorem isBl_non (b : Bool) : isBlD b .non = false := rfl
@[simp] theorem isBl_str (b : Bool) (s : Str) : isBlD b (.str s) = false := rfl
@[simp] theorem isBl_tup (b : Bool) (s : List D) : isBlD b (.tup s) = false := rfl
@[simp] theorem isBl_lst (b : Bool) (s : List D) : isBlD b (.lst s) = false := rfl
@[simp] theorem isBl_dct (b : Bool) (s : List (Key × D)) : isBlD b (.dct s) = false := rfl
@[simp] theorem isBl_ob (b : Bool) (s : Nat) : isBlD b (.ob s) = false := rfl
@[simp] theorem oIs_non (d : D) (S : Sto) : oIs d .non S = match isNonD d with | some k => .ok (.bl k) S | none => .no := by unfold oIs oIsG; cases isNonD d <;> simp
@[simp] theorem isNon_bl (b : Bool) : isNonD (.bl b) = some false := rfl
@[simp] theorem isNon_int (b : Int) : isNonD (.int b) = some false := rfl
@[simp] theorem isNon_str (b : Str) : isNonD (.str b) = some false := rfl
@[simp] theorem isNon_tup (b : List D) : isNonD (.tup b) = some false := rfl
@[simp] theorem isNon_ob (b : Nat) : isNonD (.ob b) = some false := rfl
@[simp] theorem isNon_lst (b : List D) : isNonD (.lst b) = some false := rfl
@[simp] theorem isNon_exc (b : Str) : isNonD (.exc b) = some false := rfl
@[simp] theorem isNon_dct (b : List (Key × D)) : isNonD (.dct b) = some false := rfl
@[simp] theorem isNon_non : isNonD .non = some true := rfl
mutual
def Cn : Nat → D → Prop
  | 0, _ => False
  | k + 1, .tup xs => Cns k xs
  | k + 1, .lst xs => Cns k xs
  | _ + 1, .non => True
  | _ + 1, .int _ => True
  | _ + 1, .str s => PyData.strOk s = true
  | _ + 1, _ => False
def Cns : Nat → List D → Prop
  | _, [] => True
  | 0, _ :: _ => False
  | k + 1, d :: ds => Cn k d ∧ Cns (k + 1) ds
end
theorem cns_iff {k : Nat} : ∀ {ds : List D}, Cns (k + 1) ds ↔ ∀ d ∈ ds, Cn k d
  | [] => by simp [Cns]
  | d :: ds => by simp [Cns, cns_iff (k := k) (ds := ds)]
mutual
theorem Cn.up : ∀ {k : Nat} {d : D}, Cn k d → Cn (k + 1) d
  | 0, _, h => by simp [Cn] at h
  | k + 1, .tup xs, h => by simp only [Cn] at h ⊢; exact Cns.up h
  | k + 1, .lst xs, h => by simp only [Cn] at h ⊢; exact Cns.up h
  | _ + 1, .non, _ => by simp [Cn]
  | _ + 1, .int _, _ => by simp [Cn]
  | _ + 1, .str _, h => by simp only [Cn] at h ⊢; exact h
  | _ + 1, .bl _, h => by simp [Cn] at h
  | _ + 1, .ob _, h => by simp [Cn] at h
  | _ + 1, .dct _, h => by simp [Cn] at h
  | _ + 1, .dtt _, h => by simp [Cn] at h
  | _ + 1, .ins _ _ _, h => by simp [Cn] at h
  | _ + 1, .exc _, h => by simp [Cn] at h
  | _ + 1, .ro _, h => by simp [Cn] at h
  | _ + 1, .gl _, h => by simp [Cn] at h
theorem Cns.up : ∀ {k : Nat} {ds : List D}, Cns k ds → Cns (k + 1) ds
  | _, [], _ => by simp [Cns]
  | 0, _ :: _, h => by simp [Cns] at h
  | k + 1, d :: ds, h => by
    simp only [Cns] at h ⊢
    exact ⟨h.1.up, h.2.up⟩
end
theorem Cn.le {d : D} {k j : Nat} (h : Cn k d) (hj : k ≤ j) : Cn j d := by
  induction hj with
  | refl => exact h
  | step _ ih => exact ih.up
theorem Cns.le {d : List D} {k j : Nat} (h : Cns k d) (hj : k ≤ j) : Cns j d := by
  induction hj with
  | refl => exact h
  | step _ ih => exact ih.up
mutual
theorem Cn.pl : ∀ {k : Nat} {d : D}, Cn k d → Pl k d
  | 0, _, h => by simp [Cn] at h
  | k + 1, .tup xs, h => by simp only [Cn, Pl] at h ⊢; exact Cns.pl h
  | k + 1, .lst xs, h => by simp only [Cn, Pl] at h ⊢; exact Cns.pl h
  | _ + 1, .non, _ => by simp [Pl]
  | _ + 1, .int _, _ => by simp [Pl]
  | _ + 1, .str _, h => by simp [Pl]
  | _ + 1, .bl _, h => by simp [Cn] at h
  | _ + 1, .ob _, h => by simp [Cn] at h
  | _ + 1, .dct _, h => by simp [Cn] at h
  | _ + 1, .dtt _, h => by simp [Cn] at h
  | _ + 1, .ins _ _ _, h => by simp [Cn] at h
  | _ + 1, .exc _, h => by simp [Cn] at h
  | _ + 1, .ro _, h => by simp [Cn] at h
  | _ + 1, .gl _, h => by simp [Cn] at h
theorem Cns.pl : ∀ {k : Nat} {ds : List D}, Cns k ds → Pls k ds
  | _, [], _ => by simp [Pls]
  | 0, _ :: _, h => by simp [Cns] at h
  | k + 1, d :: ds, h => by
    simp only [Cns, Pls] at h ⊢
    exact ⟨h.1.pl, h.2.pl⟩
end
mutual
theorem cn_py : ∀ {k : Nat} {d : D}, Cn k d → ∃ e, (∀ S, pyOf k S d = some e) ∧ e.canLay0 = true ∧ e.depth ≤ k
  | 0, _, h => by simp [Cn] at h
  | k + 1, .tup xs, h => by
    simp only [Cn] at h
    obtain ⟨es, h1, h2, h3⟩ := cns_py h
    exact ⟨.tuple es, fun S => by simp only [pyOf, h1 S, Option.map_some], by simpa [PyData.canLay0] using h2, by simp only [PyData.depth]; omega⟩
  | k + 1, .lst xs, h => by
    simp only [Cn] at h
    obtain ⟨es, h1, h2, h3⟩ := cns_py h
    exact ⟨.list es, fun S => by simp only [pyOf, h1 S, Option.map_some], by simpa [PyData.canLay0] using h2, by simp only [PyData.depth]; omega⟩
  | _ + 1, .non, _ => ⟨.none, fun S => by simp [pyOf], by simp [PyData.canLay0], by simp [PyData.depth]⟩
  | _ + 1, .int i, _ => ⟨.int i, fun S => by simp [pyOf], by simp [PyData.canLay0], by simp [PyData.depth]⟩
  | _ + 1, .str s, h => ⟨.str s, fun S => by simp [pyOf], by simp only [Cn] at h; simpa [PyData.canLay0] using h, by simp [PyData.depth]⟩
  | _ + 1, .bl _, h => by simp [Cn] at h
  | _ + 1, .ob _, h => by simp [Cn] at h
  | _ + 1, .dct _, h => by simp [Cn] at h
  | _ + 1, .dtt _, h => by simp [Cn] at h
  | _ + 1, .ins _ _ _, h => by simp [Cn] at h
  | _ + 1, .exc _, h => by simp [Cn] at h
  | _ + 1, .ro _, h => by simp [Cn] at h
  | _ + 1, .gl _, h => by simp [Cn] at h
theorem cns_py : ∀ {k : Nat} {ds : List D}, Cns k ds → ∃ es, (∀ S, pyOf.pyAll (pyOf k S) ds = some es) ∧ PyData.canLayAll0 es = true ∧ PyData.depthAll es ≤ k
  | _, [], _ => ⟨[], fun S => by simp [pyOf.pyAll], by simp [PyData.canLayAll0], by simp [PyData.depthAll]⟩
  | 0, _ :: _, h => by simp [Cns] at h
  | k + 1, d :: ds, h => by
    simp only [Cns] at h
    obtain ⟨e, h1, h2, h3⟩ := cn_py h.1.up
    obtain ⟨es, h4, h5, h6⟩ := cns_py h.2
    exact ⟨e :: es, fun S => by simp only [pyOf.pyAll, h1 S, h4 S], by simp [PyData.canLayAll0, h2, h5], by simp only [PyData.depthAll]; omega⟩
end
mutual
theorem cn_eqv {S : Sto} : ∀ {k : Nat} {a b : D} {x y : PyData}, Cn k a → Cn k b → pyOf k S a = some x → pyOf k S b = some y → (PyData.eqv x y = true ↔ a = b)
  | 0, _, _, _, _, h, _, _, _ => by simp [Cn] at h
  | k + 1, a, b, x, y, ha, hb, hx, hy => by
    cases a <;> simp only [Cn] at ha <;> cases b <;> simp only [Cn] at hb <;> simp only [pyOf, Option.map_eq_some_iff, Option.some.injEq] at hx hy
    case tup.tup xs ys =>
      obtain ⟨us, h1, rfl⟩ := hx
      obtain ⟨vs, h2, rfl⟩ := hy
      simp only [PyData.eqv, D.tup.injEq]
      exact cns_eqv ha hb h1 h2
    case lst.lst xs ys =>
      obtain ⟨us, h1, rfl⟩ := hx
      obtain ⟨vs, h2, rfl⟩ := hy
      simp only [PyData.eqv, D.lst.injEq]
      exact cns_eqv ha hb h1 h2
    all_goals first
      | (obtain ⟨us, h1, rfl⟩ := hx; obtain ⟨vs, h2, rfl⟩ := hy; simp [PyData.eqv])
      | (obtain ⟨us, h1, rfl⟩ := hx; subst hy; simp [PyData.eqv])
      | (obtain ⟨vs, h2, rfl⟩ := hy; subst hx; simp [PyData.eqv])
      | (subst hx; subst hy; simp [PyData.eqv])
theorem cns_eqv {S : Sto} : ∀ {k : Nat} {as bs : List D} {xs ys : List PyData}, Cns k as → Cns k bs → pyOf.pyAll (pyOf k S) as = some xs → pyOf.pyAll (pyOf k S) bs = some ys → (PyData.eqvAll xs ys = true ↔ as = bs)
  | _, [], [], xs, ys, _, _, hx, hy => by simp [pyOf.pyAll] at hx hy; subst hx; subst hy; simp [PyData.eqvAll]
  | k, [], b :: bs, xs, ys, _, _, hx, hy => by
    simp only [pyOf.pyAll] at hx hy
    split at hy
    · cases hx; cases hy; simp [PyData.eqvAll]
    · cases hy
  | k, a :: as, [], xs, ys, _, _, hx, hy => by
    simp only [pyOf.pyAll] at hx hy
    split at hx
    · cases hx; cases hy; simp [PyData.eqvAll]
    · cases hx
  | 0, _ :: _, _ :: _, _, _, h, _, _, _ => by simp [Cns] at h
  | k + 1, a :: as, b :: bs, xs, ys, ha, hb, hx, hy => by
    simp only [Cns] at ha hb
    simp only [pyOf.pyAll] at hx hy
    split at hx
    · rename_i x xs' h1 h2
      split at hy
      · rename_i y ys' h3 h4
        cases hx; cases hy
        simp only [PyData.eqvAll, Bool.and_eq_true, List.cons.injEq]
        obtain ⟨e, g1, _, _⟩ := cn_py ha.1
        obtain ⟨e', g2, _, _⟩ := cn_py hb.1
        obtain ⟨u, k1, _, _⟩ := cn_py ha.1.up
        obtain ⟨u', k2, _, _⟩ := cn_py hb.1.up
        rw [cn_eqv ha.1.up hb.1.up h1 h3, cns_eqv ha.2 hb.2 h2 h4]
      · cases hy
    · cases hx
end
theorem oEq_cn {a b : D} {S : Sto} (ha : Cn 40 a) (hb : Cn 40 b) : oEq a b S = .ok (.bl (gd (a = b))) S := by
  obtain ⟨x, h1, h2, h3⟩ := cn_py ha
  obtain ⟨y, h4, h5, h6⟩ := cn_py hb
  have e := cn_eqv ha hb (h1 S) (h4 S)
  have z : PyData.eqv x y = gd (a = b) := by
    by_cases h : a = b
    · rw [gd_of h, e.mpr h]
    · have : gd (a = b) = false := by
        cases q : gd (a = b) with
        | true => exact absurd (of_gd q) h
        | false => rfl
      rw [this]
      cases q : PyData.eqv x y with
      | true => exact absurd (e.mp q) h
      | false => rfl
  unfold oEq oEqG
  rw [h1 S, h4 S]
  simp only [shaped_of h2 (by omega), shaped_of h5 (by omega), Bool.and_self, if_true, z, Bool.bne_false]
theorem oNe_cn {a b : D} {S : Sto} (ha : Cn 40 a) (hb : Cn 40 b) : oNe a b S = .ok (.bl (!gd (a = b))) S := by
  have := oEq_cn (S := S) ha hb
  unfold oEq oEqG at this
  unfold oNe oEqG
  split at this
  · split at this
    · rename_i h
      simp only [Bool.bne_false, Res.ok.injEq, D.bl.injEq, and_true] at this
      rw [if_pos h, this, Bool.bne_true]
    · cases this
  · cases this
end DV
set_option Elab.async false
set_option linter.all false
set_option maxRecDepth 100000
set_option exponentiation.threshold 20000
namespace Fx
open PySem L2 DV
/-- a fraction as data -/
def fq (q : Rat) : D := .tup [.int q.num, .int q.den]
/-- numbers of at most n bits -/
def Bq (n : Nat) (q : Rat) : Prop := q.num.natAbs < 2 ^ n ∧ q.den < 2 ^ n
theorem Bq.mono {n m : Nat} {q : Rat} (h : Bq n q) (hm : n ≤ m) : Bq m q :=
  ⟨Nat.lt_of_lt_of_le h.1 (Nat.pow_le_pow_right (by decide) hm), Nat.lt_of_lt_of_le h.2 (Nat.pow_le_pow_right (by decide) hm)⟩
/-- the two forms of a quotient by the greatest common divisor -/
theorem low_pos {a b : Int} (hb : 0 < b) : a.fdiv (Nat.gcd a.natAbs b.natAbs : Nat) = (Rat.divInt a b).num ∧ b.fdiv (Nat.gcd a.natAbs b.natAbs : Nat) = ((Rat.divInt a b).den : Int) := by
  rw [Rat.num_divInt, Rat.den_divInt, if_neg (by omega), Int.sign_eq_one_of_pos hb, Int.one_mul]
  have e : (Int.gcd b a : Int) = (Nat.gcd a.natAbs b.natAbs : Nat) := by rw [Int.gcd, Nat.gcd_comm]
  rw [e, Int.fdiv_eq_ediv_of_nonneg _ (Int.natCast_nonneg _), Int.fdiv_eq_ediv_of_nonneg _ (Int.natCast_nonneg _)]
  refine ⟨rfl, ?_⟩
  rw [Int.gcd, Nat.gcd_comm, Int.natCast_ediv]
  congr 1
  omega
theorem low_neg {a b : Int} (hb : b < 0) : a.fdiv (-((Nat.gcd a.natAbs b.natAbs : Nat) : Int)) = (Rat.divInt a b).num ∧ b.fdiv (-((Nat.gcd a.natAbs b.natAbs : Nat) : Int)) = ((Rat.divInt a b).den : Int) := by
  have d1 : ((Nat.gcd a.natAbs b.natAbs : Nat) : Int) ∣ a := Int.ofNat_dvd_left.mpr (Nat.gcd_dvd_left _ _)
  have d2 : ((Nat.gcd a.natAbs b.natAbs : Nat) : Int) ∣ b := Int.ofNat_dvd_left.mpr (Nat.gcd_dvd_right _ _)
  rw [Int.fdiv_eq_ediv_of_dvd (Int.neg_dvd.mpr d1), Int.fdiv_eq_ediv_of_dvd (Int.neg_dvd.mpr d2), Int.ediv_neg, Int.ediv_neg, ← Int.neg_ediv_of_dvd d1, ← Int.neg_ediv_of_dvd d2]
  have e : Rat.divInt a b = Rat.divInt (-a) (-b) := (Rat.neg_divInt_neg a b).symm
  have := low_pos (a := -a) (b := -b) (by omega)
  rw [Int.natAbs_neg, Int.natAbs_neg, Int.fdiv_eq_ediv_of_nonneg _ (Int.natCast_nonneg _), Int.fdiv_eq_ediv_of_nonneg _ (Int.natCast_nonneg _)] at this
  rw [e]
  exact this
theorem gcd_ne {a b : Int} (hb : b ≠ 0) : ((Nat.gcd a.natAbs b.natAbs : Nat) : Int) ≠ 0 := by
  intro h
  have h2 : Nat.gcd a.natAbs b.natAbs = 0 := by exact_mod_cast h
  have := Nat.eq_zero_of_gcd_eq_zero_right h2
  omega
theorem lowest_ok {a b : Int} (S : Sto) (hb : b ≠ 0) (ha2 : a.natAbs < 2 ^ 13000) (hb2 : b.natAbs < 2 ^ 13000) : F_in_lowest_terms [.int a, .int b] S = .ok (fq (Rat.divInt a b)) S := by
  have hg := gcd_ne (a := a) hb
  by_cases h : b < 0
  · have e := low_neg (a := a) h
    have hg' : -((Nat.gcd a.natAbs b.natAbs : Nat) : Int) ≠ 0 := by omega
    unfold F_in_lowest_terms b_in_lowest_terms
    refine run_eq0 ?_ (by simp [Pl, Pls, fq])
    rw [seq_nx (ρ' := [some (.int a), some (.int b), some (.int (Nat.gcd a.natAbs b.natAbs : Nat))]) (S' := S) (by simp [c_in_lowest_terms_0]), seq_nx (ρ' := [some (.int a), some (.int b), some (.int (-(Nat.gcd a.natAbs b.natAbs : Nat)))]) (S' := S) (by simp [c_in_lowest_terms_1, h])]
    simp [c_in_lowest_terms_2, oDiv_int _ (divOk_any hg' ha2), oDiv_int _ (divOk_any hg' hb2), fq, e.1, e.2]
  · have e := low_pos (a := a) (b := b) (by omega)
    unfold F_in_lowest_terms b_in_lowest_terms
    refine run_eq0 ?_ (by simp [Pl, Pls, fq])
    rw [seq_nx (ρ' := [some (.int a), some (.int b), some (.int (Nat.gcd a.natAbs b.natAbs : Nat))]) (S' := S) (by simp [c_in_lowest_terms_0]), seq_nx (ρ' := [some (.int a), some (.int b), some (.int (Nat.gcd a.natAbs b.natAbs : Nat))]) (S' := S) (by simp [c_in_lowest_terms_1, h])]
    simp [c_in_lowest_terms_2, oDiv_int _ (divOk_any hg ha2), oDiv_int _ (divOk_any hg hb2), fq, e.1, e.2]
theorem euclid (o0 o1 : Option D) (S : Sto) : ∀ (n : Nat) (x y : Nat), y ≤ n →
    whGo (tTru (eOp oGt (eVar 3) (eC (.int 0)))) c_l_low_1_0 n [o0, o1, some (.int x), some (.int y)] S = .nx [o0, o1, some (.int (Nat.gcd x y : Nat)), some (.int 0)] S
  | n, x, 0, _ => by unfold whGo; simp
  | 0, x, y + 1, h => by omega
  | n + 1, x, y + 1, h => by
    have h1 : (0 : Int) < ((y + 1 : Nat) : Int) := by omega
    have e : c_l_low_1_0 [o0, o1, some (.int x), some (.int ((y + 1 : Nat) : Int))] S = .nx [o0, o1, some (.int ((y + 1 : Nat) : Int)), some (.int ((x % (y + 1) : Nat) : Int))] S := by
      simp only [c_l_low_1_0, sPar_eq, aCons_eq, aNil_eq, eVar_s, eVar_0, bind_ok, sb_ok, eOp_eq, oMod_int _ h1, List.set_cons_succ, List.set_cons_zero]
      rfl
    unfold whGo
    simp only [tTru_eq, eOp_eq, eVar_s, eVar_0, bind_ok, eC_eq, oGt_int, decide_eq_true h1, truD_bl, sb_ok, if_true, e]
    rw [euclid o0 o1 S n (y + 1) (x % (y + 1)) (by have := Nat.mod_lt x (show 0 < y + 1 by omega); omega)]
    rw [Nat.gcd_comm (y + 1), ← Nat.gcd_rec, Nat.gcd_comm]
theorem abs_nat (i : Int) : (if i < 0 then -i else i) = (i.natAbs : Int) := by split <;> omega
theorem l_low_ok {a b : Int} (S : Sto) (hb : b ≠ 0) (ha2 : a.natAbs < 2 ^ 13000) (hb2 : b.natAbs < 2 ^ 13000) : F_l_low [.int a, .int b] S = .ok (fq (Rat.divInt a b)) S := by
  have hg := gcd_ne (a := a) hb
  have ha3 : (0 - a).natAbs < 2 ^ 13000 := by rw [show (0 - a).natAbs = a.natAbs by omega]; exact ha2
  have hb3 : (0 - b).natAbs < 2 ^ 13000 := by rw [show (0 - b).natAbs = b.natAbs by omega]; exact hb2
  unfold F_l_low b_l_low
  refine run_eq0 ?_ (by simp [Pl, Pls, fq])
  rw [seq_nx (ρ' := [some (.int a), some (.int b), some (.int (a.natAbs : Int)), some (.int (b.natAbs : Int))]) (S' := S) (by simp [c_l_low_0, abs_nat])]
  rw [seq_nx (ρ' := [some (.int a), some (.int b), some (.int (Nat.gcd a.natAbs b.natAbs : Nat)), some (.int 0)]) (S' := S) (by
    unfold c_l_low_1 sWh
    exact euclid _ _ S _ a.natAbs b.natAbs (by simp [fu_l_low_0]))]
  by_cases h : b < 0
  · have e := low_neg (a := a) h
    rw [seq_nx (ρ' := [some (.int (0 - a)), some (.int (0 - b)), some (.int (Nat.gcd a.natAbs b.natAbs : Nat)), some (.int 0)]) (S' := S) (by simp [c_l_low_2, h])]
    have d1 : ((Nat.gcd a.natAbs b.natAbs : Nat) : Int) ∣ a := Int.ofNat_dvd_left.mpr (Nat.gcd_dvd_left _ _)
    have d2 : ((Nat.gcd a.natAbs b.natAbs : Nat) : Int) ∣ b := Int.ofNat_dvd_left.mpr (Nat.gcd_dvd_right _ _)
    have e1 : (0 - a).fdiv (Nat.gcd a.natAbs b.natAbs : Nat) = (Rat.divInt a b).num := by
      rw [← e.1, Int.fdiv_eq_ediv_of_dvd (Int.neg_dvd.mpr d1), Int.ediv_neg, Int.zero_sub, Int.fdiv_eq_ediv_of_dvd (Int.dvd_neg.mpr d1), Int.neg_ediv_of_dvd d1]
    have e2 : (0 - b).fdiv (Nat.gcd a.natAbs b.natAbs : Nat) = ((Rat.divInt a b).den : Int) := by
      rw [← e.2, Int.fdiv_eq_ediv_of_dvd (Int.neg_dvd.mpr d2), Int.ediv_neg, Int.zero_sub, Int.fdiv_eq_ediv_of_dvd (Int.dvd_neg.mpr d2), Int.neg_ediv_of_dvd d2]
    simp only [c_l_low_3, sRet_eq, eTup_eq, aCons_eq, aNil_eq, eOp_eq, eVar_s, eVar_0, bind_ok, oDiv_int _ (divOk_any hg ha3), oDiv_int _ (divOk_any hg hb3), e1, e2, fq, sb_ok]
    rw [if_pos (by rw [szOk_le]; simp)]
    rfl
  · have e := low_pos (a := a) (b := b) (by omega)
    rw [seq_nx (ρ' := [some (.int a), some (.int b), some (.int (Nat.gcd a.natAbs b.natAbs : Nat)), some (.int 0)]) (S' := S) (by simp [c_l_low_2, h])]
    simp [c_l_low_3, oDiv_int _ (divOk_any hg ha2), oDiv_int _ (divOk_any hg hb2), fq, e.1, e.2]
theorem Bq_divInt {a b : Int} {n : Nat} (hb : b ≠ 0) (ha : a.natAbs < 2 ^ n) (hb2 : b.natAbs < 2 ^ n) : Bq n (Rat.divInt a b) := by
  constructor
  · rw [Rat.num_divInt]
    refine Nat.lt_of_le_of_lt (Int.natAbs_ediv_le_natAbs _ _) ?_
    rw [Int.natAbs_mul]
    have : b.sign.natAbs = 1 := by rw [Int.natAbs_sign, if_neg hb]
    rw [this, Nat.one_mul]
    exact ha
  · rw [Rat.den_divInt, if_neg hb]
    exact Nat.lt_of_le_of_lt (Nat.div_le_self _ _) hb2
theorem den_ne (q : Rat) : (q.den : Int) ≠ 0 := by
  have := q.den_nz
  omega
theorem mul_lt {i j : Int} {a b : Nat} (ha : i.natAbs < 2 ^ a) (hb : j.natAbs < 2 ^ b) : (i * j).natAbs < 2 ^ (a + b) := wide_lt ha hb
theorem pow_mono {x n m : Nat} (h : x < 2 ^ n) (hm : n ≤ m) : x < 2 ^ m := Nat.lt_of_lt_of_le h (Nat.pow_le_pow_right (by decide) hm)
theorem add_lt {i j : Int} {n : Nat} (ha : i.natAbs < 2 ^ n) (hb : j.natAbs < 2 ^ n) : (i + j).natAbs < 2 ^ (n + 1) := by
  rw [Nat.pow_succ]; omega
theorem sub_lt {i j : Int} {n : Nat} (ha : i.natAbs < 2 ^ n) (hb : j.natAbs < 2 ^ n) : (i - j).natAbs < 2 ^ (n + 1) := by
  rw [Nat.pow_succ]; omega
theorem den_abs (q : Rat) : (q.den : Int).natAbs = q.den := Int.natAbs_natCast _
section
variable {p q : Rat} {n m : Nat}
theorem dd_ne : (p.den : Int) * (q.den : Int) ≠ 0 := by
  have := den_ne p
  have := den_ne q
  exact Int.mul_ne_zero (by assumption) (by assumption)
/-- what is asked of the numbers of a sum -/
theorem sum_ok (hp : Bq n p) (hq : Bq m q) : (p.num * q.den + q.num * p.den).natAbs < 2 ^ (n + m + 1) ∧ (p.num * q.den - q.num * p.den).natAbs < 2 ^ (n + m + 1) ∧ ((p.den : Int) * (q.den : Int)).natAbs < 2 ^ (n + m + 1) ∧ ((p.den : Int) * (q.den : Int)).natAbs < 2 ^ (n + m) ∧ (p.num * q.num).natAbs < 2 ^ (n + m) ∧
    mulOk p.num q.den = mulOk p.num q.den := by
  have h1 : (p.num * (q.den : Int)).natAbs < 2 ^ (n + m) := mul_lt hp.1 (by rw [den_abs]; exact hq.2)
  have h2 : (q.num * (p.den : Int)).natAbs < 2 ^ (n + m) := by rw [Nat.add_comm]; exact mul_lt hq.1 (by rw [den_abs]; exact hp.2)
  have h3 : ((p.den : Int) * (q.den : Int)).natAbs < 2 ^ (n + m) := mul_lt (by rw [den_abs]; exact hp.2) (by rw [den_abs]; exact hq.2)
  exact ⟨add_lt h1 h2, sub_lt h1 h2, pow_mono h3 (by omega), h3, mul_lt hp.1 hq.1, rfl⟩
theorem mok (hp : Bq n p) (hq : Bq m q) (h : n + m ≤ 100000) : mulOk p.num q.den = true ∧ mulOk q.num p.den = true ∧ mulOk (p.den : Int) q.den = true ∧ mulOk p.num q.num = true :=
  ⟨mulOk_of hp.1 (by rw [den_abs]; exact hq.2) (by omega), mulOk_of hq.1 (by rw [den_abs]; exact hp.2) (by omega), mulOk_of (by rw [den_abs]; exact hp.2) (by rw [den_abs]; exact hq.2) (by omega), mulOk_of hp.1 hq.1 (by omega)⟩
theorem add_eq : Rat.divInt (p.num * q.den + q.num * p.den) (p.den * q.den) = p + q := by
  rw [Rat.add_def', ← Rat.divInt_ofNat]; rfl
theorem sub_eq : Rat.divInt (p.num * q.den - q.num * p.den) (p.den * q.den) = p - q := by
  rw [Rat.sub_def', ← Rat.divInt_ofNat]; rfl
theorem mul_eq : Rat.divInt (p.num * q.num) (p.den * q.den) = p * q := by
  rw [Rat.mul_def', ← Rat.divInt_ofNat]; rfl
theorem Bq_add (hp : Bq n p) (hq : Bq m q) : Bq (n + m + 1) (p + q) := by
  obtain ⟨h1, h2, h3, h4, h5, _⟩ := sum_ok hp hq
  rw [← add_eq]; exact Bq_divInt dd_ne h1 h3
theorem Bq_sub (hp : Bq n p) (hq : Bq m q) : Bq (n + m + 1) (p - q) := by
  obtain ⟨h1, h2, h3, h4, h5, _⟩ := sum_ok hp hq
  rw [← sub_eq]; exact Bq_divInt dd_ne h2 h3
theorem Bq_mul (hp : Bq n p) (hq : Bq m q) : Bq (n + m) (p * q) := by
  obtain ⟨h1, h2, h3, h4, h5, _⟩ := sum_ok hp hq
  rw [← mul_eq]; exact Bq_divInt dd_ne h5 h4
theorem l_add_ok (hp : Bq n p) (hq : Bq m q) (h : n + m + 1 ≤ 13000) (S : Sto) : F_l_add [fq p, fq q] S = .ok (fq (p + q)) S := by
  obtain ⟨h1, h2, h3, h4, h5, _⟩ := sum_ok hp hq
  obtain ⟨g1, g2, g3, g4⟩ := mok hp hq (by omega)
  have e := l_low_ok S (dd_ne (p := p) (q := q)) (pow_mono h1 h) (pow_mono h3 h)
  rw [add_eq] at e
  unfold F_l_add b_l_add
  refine run_eq0 ?_ (by simp [Pl, Pls, fq])
  simp only [fq] at e ⊢
  simp [c_l_add_0, oMul_int, g1, g2, g3, e]
theorem l_sub_ok (hp : Bq n p) (hq : Bq m q) (h : n + m + 1 ≤ 13000) (S : Sto) : F_l_sub [fq p, fq q] S = .ok (fq (p - q)) S := by
  obtain ⟨h1, h2, h3, h4, h5, _⟩ := sum_ok hp hq
  obtain ⟨g1, g2, g3, g4⟩ := mok hp hq (by omega)
  have e := l_low_ok S (dd_ne (p := p) (q := q)) (pow_mono h2 h) (pow_mono h3 h)
  rw [sub_eq] at e
  unfold F_l_sub b_l_sub
  refine run_eq0 ?_ (by simp [Pl, Pls, fq])
  simp only [fq] at e ⊢
  simp [c_l_sub_0, oMul_int, g1, g2, g3, e]
theorem dd_pos : 0 < (p.den : Int) * (q.den : Int) := Int.mul_pos (by have := p.den_pos; omega) (by have := q.den_pos; omega)
theorem minus_ok (hp : Bq n p) (hq : Bq m q) (h : n + m + 1 ≤ 13000) (S : Sto) : F_minus [fq p, fq q] S = .ok (fq (p - q)) S := by
  obtain ⟨h1, h2, h3, h4, h5, _⟩ := sum_ok hp hq
  obtain ⟨g1, g2, g3, g4⟩ := mok hp hq (by omega)
  have hb := dd_pos (p := p) (q := q)
  have e1 : (Rat.divInt (p.num * q.den - q.num * p.den) ((p.den : Int) * (q.den : Int))) = p - q := sub_eq
  have x0 : c_minus_0 [some (fq p), some (fq q), none, none, none] S = .nx [some (fq p), some (fq q), some (.int (p.num * q.den - q.num * p.den)), none, none] S := by
    simp only [fq]
    simp [c_minus_0, oMul_int, g1, g2]
  have x1 : ∀ o, c_minus_1 [some (fq p), some (fq q), o, none, none] S = .nx [some (fq p), some (fq q), o, some (.int ((p.den : Int) * (q.den : Int))), none] S := fun o => by
    simp only [fq]
    simp [c_minus_1, oMul_int, g3]
  have x2 : ∀ a b : Int, c_minus_2 [some (fq p), some (fq q), some (.int a), some (.int b), none] S = .nx [some (fq p), some (fq q), some (.int a), some (.int b), some (.int (Nat.gcd a.natAbs b.natAbs : Nat))] S := fun a b => by
    simp [c_minus_2]
  have x3 : ∀ a b : Int, 0 < b → a.natAbs < 2 ^ 13000 → b.natAbs < 2 ^ 13000 → c_minus_3 [some (fq p), some (fq q), some (.int a), some (.int b), some (.int (Nat.gcd a.natAbs b.natAbs : Nat))] S = .rt (fq (Rat.divInt a b)) S := fun a b hb ha hb' => by
    have hg := gcd_ne (a := a) (b := b) (by omega)
    have e := low_pos (a := a) hb
    simp [c_minus_3, oDiv_int _ (divOk_any hg ha), oDiv_int _ (divOk_any hg hb'), fq, e.1, e.2]
  unfold F_minus b_minus
  refine run_eq0 ?_ (by simp [Pl, Pls, fq])
  refine (seq_nx x0 _).trans ((seq_nx (x1 _) _).trans ((seq_nx (x2 _ _) _).trans ((x3 _ _ hb (pow_mono h2 h) (pow_mono h3 h)).trans ?_)))
  rw [e1]
theorem is_fraction_ok (S : Sto) : F_is_fraction [fq p] S = .ok (.bl true) S := by
  have r : (p.num.natAbs.gcd p.den) = 1 := p.reduced
  have d := p.den_nz
  have d2 : (p.den : Int) = 1 ∨ (1 : Int) < p.den := by omega
  unfold F_is_fraction b_is_fraction
  refine run_eq0 ?_ (by simp [Pl, Pls, fq])
  simp only [fq]
  rcases d2 with d2 | d2
  · simp [c_is_fraction_0, c_is_fraction_1, c_is_fraction_2, c_is_fraction_3, c_is_fraction_4, d2, sSeq]
  · have d3 : ¬ (p.den : Int) = 1 := by omega
    have d4 : ((p.den : Int) == 1) = false := beq_eq_false_iff_ne.mpr d3
    simp [c_is_fraction_0, c_is_fraction_1, c_is_fraction_2, c_is_fraction_3, c_is_fraction_4, r, d2, d3, d4, sSeq]
end
theorem fq_inj {p q : Rat} : fq p = fq q ↔ p = q := by
  constructor
  · intro h
    simp only [fq, D.tup.injEq, List.cons.injEq, D.int.injEq, and_true] at h
    exact Rat.ext h.1 (by exact_mod_cast h.2)
  · rintro rfl; rfl
theorem cn_fq {q : Rat} {k : Nat} : Cn (k + 3) (fq q) := by simp [fq, Cn, Cns]
theorem pl_fq {q : Rat} {k : Nat} : Pl (k + 3) (fq q) := cn_fq.pl
theorem gd_fq {p q : Rat} : gd (fq p = fq q) = decide (p = q) := by
  by_cases h : p = q
  · rw [gd_of (fq_inj.mpr h), decide_eq_true h]
  · rw [decide_eq_false h]
    cases z : gd (fq p = fq q) with
    | true => exact absurd (fq_inj.mp (of_gd z)) h
    | false => rfl
@[simp] theorem oEq_fq (p q : Rat) (S : Sto) : oEq (fq p) (fq q) S = .ok (.bl (decide (p = q))) S := by rw [oEq_cn cn_fq cn_fq, gd_fq]
@[simp] theorem oNe_fq (p q : Rat) (S : Sto) : oNe (fq p) (fq q) S = .ok (.bl (!decide (p = q))) S := by rw [oNe_cn cn_fq cn_fq, gd_fq]
theorem fq_int (i : Int) : D.tup [.int i, .int 1] = fq i := by simp [fq]
theorem Bq_int {n : Nat} {i : Int} (h : i.natAbs < 2 ^ n) (hn : 1 ≤ n) : Bq n i := ⟨by simpa using h, by simpa using Nat.one_lt_two_pow (by omega)⟩
end Fx
set_option Elab.async false
set_option linter.all false
set_option maxRecDepth 100000
set_option exponentiation.threshold 20000
namespace Fx
open PySem L2 DV
section
variable {p q r : Rat} {n m : Nat}
theorem div_eq (p q : Rat) : Rat.divInt (p.num * q.den) (p.den * q.num) = p / q := by
  rw [Rat.div_def, Rat.inv_def, ← Rat.divInt_mul_divInt, Rat.divInt_ofNat, Rat.mkRat_self]
theorem num_ne (h : q ≠ 0) : q.num ≠ 0 := fun e => h (Rat.num_eq_zero.mp e)
theorem fq_zero : fq 0 = .tup [.int 0, .int 1] := rfl
theorem over_ok (hp : Bq n p) (hq : Bq m q) (h : n + m ≤ 13000) (h0 : q ≠ 0) (S : Sto) : F_over [fq p, fq q] S = .ok (fq (p / q)) S := by
  have e0 : oEq (fq q) (.tup [.int 0, .int 1]) S = .ok (.bl false) S := by
    rw [← fq_zero, oEq_fq, decide_eq_false h0]
  have g1 : mulOk p.num q.den = true := mulOk_of hp.1 (by rw [den_abs]; exact hq.2) (by omega)
  have g2 : mulOk (p.den : Int) q.num = true := mulOk_of (by rw [den_abs]; exact hp.2) hq.1 (by omega)
  have h1 : (p.num * (q.den : Int)).natAbs < 2 ^ (n + m) := mul_lt hp.1 (by rw [den_abs]; exact hq.2)
  have h2 : ((p.den : Int) * q.num).natAbs < 2 ^ (n + m) := mul_lt (by rw [den_abs]; exact hp.2) hq.1
  have e := lowest_ok S (Int.mul_ne_zero (den_ne p) (num_ne h0)) (pow_mono h1 (by omega)) (pow_mono h2 (by omega))
  rw [div_eq] at e
  unfold F_over b_over
  refine run_eq0 ?_ pl_fq
  refine (seq_nx (ρ' := [some (fq p), some (fq q)]) (S' := S) (by simp [c_over_0, e0]) _).trans ?_
  simp only [fq] at e ⊢
  simp [c_over_1, oMul_int, g1, g2, e]
end
/-- a stretch: how many steps, the first's length, the last's -/
structure St where
  m : Int
  f : Rat
  l : Rat
def sd (s : St) : D := .tup [.int s.m, fq s.f, fq s.l]
/-- a right stretch -/
structure Sok (B : Nat) (s : St) : Prop where
  bb : B ≤ 1000
  m1 : 1 ≤ s.m
  m2 : s.m ≤ 200000
  f0 : 0 < s.f
  l0 : 0 < s.l
  bf : Bq B s.f
  bl : Bq B s.l
def rise (s : St) : Rat := (s.l - s.f) / (s.m : Rat)
def len (s : St) (k : Int) : Rat := s.f + rise s * ((2 * (k : Rat) + 1) / 2)
def tot (s : St) (k : Int) : Rat := s.f * (k : Rat) + rise s * ((k : Rat) * (k : Rat) / 2)
def mw (s : St) (p : Rat) : Rat := tot s p.floor + (p - (p.floor : Rat)) * len s p.floor
theorem divInt_div (c d : Int) : Rat.divInt c d = (c : Rat) / (d : Rat) := by
  rw [Rat.divInt_eq_div]
theorem num_den (q : Rat) : q * ((q.den : Int) : Rat) = (q.num : Rat) := by
  have h : (q.num : Rat) / ((q.den : Int) : Rat) = q := by rw [← divInt_div, Rat.divInt_ofNat, Rat.mkRat_self]
  have h0 : ((q.den : Int) : Rat) ≠ 0 := fun e => den_ne q (by exact_mod_cast e)
  grind
theorem clt {a b : Int} : ((a : Rat) < (b : Rat)) = (a < b) := propext Rat.intCast_lt_intCast
theorem cle {a b : Int} : ((a : Rat) ≤ (b : Rat)) = (a ≤ b) := propext Rat.intCast_le_intCast
theorem den_pos (q : Rat) : (0 : Rat) < ((q.den : Int) : Rat) := by
  have : ((0 : Int) : Rat) < ((q.den : Int) : Rat) := by rw [clt]; have := den_ne q; omega
  exact this
/-- the line of a stretch: even, rise, bottom -/
def ev (s : St) : Int := 2 * s.m * s.f.num * (s.l.den : Int)
def ri (s : St) : Int := s.l.num * (s.f.den : Int) - s.f.num * (s.l.den : Int)
def bo (s : St) : Int := 2 * s.m * (s.f.den : Int) * (s.l.den : Int)
def ln (s : St) : D := .tup [.int (ev s), .int (ri s), .int (bo s)]
section
variable {B : Nat} {s : St} {k : Int} {S : Sto}
theorem Sok.m0 (h : Sok B s) : (s.m : Rat) ≠ 0 := by
  have := h.m1
  intro e
  have : s.m = 0 := by exact_mod_cast e
  omega
theorem Sok.mp (h : Sok B s) : (0 : Rat) < (s.m : Rat) := by
  have : ((0 : Int) : Rat) < (s.m : Rat) := by rw [clt]; have := h.m1; omega
  exact this
theorem Sok.bm (h : Sok B s) : Bq 18 (s.m : Rat) := Bq_int (by have := h.m1; have := h.m2; omega) (by decide)
/-- how great the line's numbers are -/
theorem ln_lt (h : Sok B s) : (ev s).natAbs < 2 ^ (2 * B + 20) ∧ (ri s).natAbs < 2 ^ (2 * B + 1) ∧ (bo s).natAbs < 2 ^ (2 * B + 20) ∧ 0 < bo s := by
  have m1 := h.m1
  have m2 := h.m2
  have bm : (2 * s.m).natAbs < 2 ^ 20 := by omega
  have fd : (s.f.den : Int).natAbs < 2 ^ B := by rw [den_abs]; exact h.bf.2
  have ld : (s.l.den : Int).natAbs < 2 ^ B := by rw [den_abs]; exact h.bl.2
  refine ⟨pow_mono (mul_lt (mul_lt bm h.bf.1) ld) (by omega), pow_mono (sub_lt (mul_lt h.bl.1 fd) (mul_lt h.bf.1 ld)) (by omega), pow_mono (mul_lt (mul_lt bm fd) ld) (by omega), ?_⟩
  have a := s.f.den_pos
  have b := s.l.den_pos
  exact Int.mul_pos (Int.mul_pos (by omega) (by omega)) (by omega)
theorem bo_pos (h : Sok B s) : (0 : Rat) < (bo s : Rat) := by
  have : ((0 : Int) : Rat) < (bo s : Rat) := by rw [clt]; exact (ln_lt h).2.2.2
  exact this
theorem ev_eq : (ev s : Rat) = 2 * (s.m : Rat) * s.f * (((s.f.den : Int) : Rat) * ((s.l.den : Int) : Rat)) := by
  have f1 := num_den s.f
  unfold ev
  simp only [Rat.intCast_mul]
  rw [← f1]
  grind
theorem ri_eq : (ri s : Rat) = (s.l - s.f) * (((s.f.den : Int) : Rat) * ((s.l.den : Int) : Rat)) := by
  have f1 := num_den s.f
  have l1 := num_den s.l
  unfold ri
  simp only [Rat.intCast_mul, Rat.intCast_sub]
  rw [← f1, ← l1]
  grind
theorem bo_eq : (bo s : Rat) = 2 * (s.m : Rat) * (((s.f.den : Int) : Rat) * ((s.l.den : Int) : Rat)) := by
  unfold bo
  simp only [Rat.intCast_mul]
  grind
theorem rise_m (h : Sok B s) : rise s * (s.m : Rat) = s.l - s.f := by
  have := h.m0
  unfold rise
  grind
/-- the line's step, and its first so many steps -/
theorem ln_len (h : Sok B s) (k : Int) : ((ev s + (2 * k + 1) * ri s : Int) : Rat) = len s k * (bo s : Rat) := by
  have r := rise_m h
  simp only [Rat.intCast_add, Rat.intCast_mul]
  rw [ev_eq, ri_eq, bo_eq, ← r]
  unfold len
  grind
theorem div_of {a b c : Rat} (h : a = c * b) (hb : b ≠ 0) : a / b = c := by
  rw [h]; grind
theorem line_of_ok (h : Sok B s) (S : Sto) : F_line_of [sd s] S = .ok (ln s) S := by
  have m1 := h.m1
  have bb := h.bb
  have m2 := h.m2
  have bm : (2 * s.m).natAbs < 2 ^ 20 := by omega
  have ft := h.bf.1
  have fd : (s.f.den : Int).natAbs < 2 ^ B := by rw [den_abs]; exact h.bf.2
  have lt := h.bl.1
  have ld : (s.l.den : Int).natAbs < 2 ^ B := by rw [den_abs]; exact h.bl.2
  have a0 : mulOk 2 s.m = true := mulOk_of (a := 20) (b := 20) (by decide) (by omega) (by decide)
  have a1 : mulOk (2 * s.m) s.f.num = true := mulOk_of bm ft (by omega)
  have a2 : mulOk (2 * s.m * s.f.num) (s.l.den : Int) = true := mulOk_of (mul_lt bm ft) ld (by omega)
  have a3 : mulOk s.l.num (s.f.den : Int) = true := mulOk_of lt fd (by omega)
  have a4 : mulOk s.f.num (s.l.den : Int) = true := mulOk_of ft ld (by omega)
  have a5 : mulOk (2 * s.m) (s.f.den : Int) = true := mulOk_of bm fd (by omega)
  have a6 : mulOk (2 * s.m * (s.f.den : Int)) (s.l.den : Int) = true := mulOk_of (mul_lt bm fd) ld (by omega)
  unfold F_line_of b_line_of
  refine run_eq0 ?_ (by simp [Pl, Pls, ln])
  refine (seq_nx (ρ' := [some (sd s), some (.int s.m), some (.int s.f.num), some (.int s.f.den), some (.int s.l.num), some (.int s.l.den), none, none]) (S' := S) (by simp [c_line_of_0, sd, fq]) _).trans ?_
  refine (seq_nx (ρ' := [some (sd s), some (.int s.m), some (.int s.f.num), some (.int s.f.den), some (.int s.l.num), some (.int s.l.den), some (.int (ev s)), none]) (S' := S) (by simp [c_line_of_1, oMul_int, a0, a1, a2, ev]) _).trans ?_
  refine (seq_nx (ρ' := [some (sd s), some (.int s.m), some (.int s.f.num), some (.int s.f.den), some (.int s.l.num), some (.int s.l.den), some (.int (ev s)), some (.int (ri s))]) (S' := S) (by simp [c_line_of_2, oMul_int, a3, a4, ri]) _).trans ?_
  simp [c_line_of_3, oMul_int, a0, a5, a6, bo, ln]
theorem rise_ok (h : Sok B s) (S : Sto) : F_rise_of [sd s] S = .ok (fq (rise s)) S := by
  have e1 := fun S => minus_ok h.bl h.bf (by have := h.bb; omega) S
  have e2 := fun S => over_ok (Bq_sub h.bl h.bf) h.bm (by have := h.bb; omega) h.m0 S
  unfold F_rise_of b_rise_of
  refine run_eq0 ?_ pl_fq
  refine (seq_nx (ρ' := [some (sd s), some (.int s.m), some (fq s.f), some (fq s.l)]) (S' := S) (by simp [c_rise_of_0, sd]) _).trans ?_
  simp [c_rise_of_1, fq_int, e1, e2, rise]
/-- numbers of the line: a step's, and those of the first so many -/
theorem ln_k (h : Sok B s) (hk : k.natAbs < 2 ^ 18) : mulOk (2 * k + 1) (ri s) = true ∧ mulOk 2 k = true ∧ mulOk k (ri s) = true ∧ mulOk k (ev s + k * ri s) = true ∧
    (ev s + (2 * k + 1) * ri s).natAbs < 2 ^ (2 * B + 30) ∧ (k * (ev s + k * ri s)).natAbs < 2 ^ (2 * B + 50) := by
  obtain ⟨b1, b2, b3, b4⟩ := ln_lt h
  have bb := h.bb
  have k2 : (2 * k + 1).natAbs < 2 ^ 20 := by omega
  have t1 : ((2 * k + 1) * ri s).natAbs < 2 ^ (20 + (2 * B + 1)) := mul_lt k2 b2
  have t2 : (k * ri s).natAbs < 2 ^ (18 + (2 * B + 1)) := mul_lt hk b2
  have t3 : (ev s + k * ri s).natAbs < 2 ^ (20 + (2 * B + 1)) := add_lt (n := 2 * B + 20) b1 (pow_mono t2 (by omega)) |> fun z => pow_mono z (by omega)
  exact ⟨mulOk_of k2 b2 (by omega), mulOk_of (a := 20) (b := 20) (by decide) (by omega) (by decide), mulOk_of hk b2 (by omega), mulOk_of hk t3 (by omega),
    pow_mono (add_lt (n := 20 + (2 * B + 1)) (pow_mono b1 (by omega)) t1) (by omega), pow_mono (mul_lt hk t3) (by omega)⟩
theorem bo_ne (h : Sok B s) : bo s ≠ 0 := by have := (ln_lt h).2.2.2; omega
theorem boR_ne (h : Sok B s) : (bo s : Rat) ≠ 0 := by have := bo_pos h; grind
theorem len_ok (h : Sok B s) (hk : k.natAbs < 2 ^ 18) (S : Sto) : F_length_within [ln s, .int k] S = .ok (fq (len s k)) S := by
  obtain ⟨g1, g2, g3, g4, g5, g6⟩ := ln_k h hk
  have e := lowest_ok S (bo_ne h) (pow_mono g5 (by have := h.bb; omega)) (pow_mono (ln_lt h).2.2.1 (by have := h.bb; omega))
  rw [divInt_div, ln_len h k, div_of rfl (boR_ne h)] at e
  unfold F_length_within b_length_within
  refine run_eq0 ?_ pl_fq
  refine (seq_nx (ρ' := [some (ln s), some (.int k), some (.int (ev s)), some (.int (ri s)), some (.int (bo s))]) (S' := S) (by simp [c_length_within_0, ln]) _).trans ?_
  simp [c_length_within_1, oMul_int, g1, g2, e]
end
end Fx
set_option Elab.async false
set_option linter.all false
set_option maxRecDepth 100000
namespace Fx
open PySem L2 DV
section
variable {B : Nat} {s : St} {k : Int} {p q x r : Rat}
theorem pos_of_mul {a b : Rat} (ha : 0 < a) (h : 0 < a * b) : 0 < b := by
  refine Rat.not_le.mp fun hb => ?_
  have : 0 ≤ a * (-b) := Rat.mul_nonneg (by grind) (by grind)
  grind
/-- the moment of a place, by stretches and the rest -/
def mo : List St → Rat → Rat → Rat
  | [], r, p => p * r
  | s :: ss, r, p => if p < (s.m : Rat) then mw s p else tot s s.m + mo ss r (p - (s.m : Rat))
/-- how long a step lasts -/
def le : List St → Rat → Int → Rat
  | [], r, _ => r
  | s :: ss, r, k => if k < s.m then len s k else le ss r (k - s.m)
end
end Fx
set_option Elab.async false
set_option linter.all false
set_option maxRecDepth 100000
set_option exponentiation.threshold 20000
namespace Fx
open PySem L2 DV
section
variable {B : Nat} {s : St} {k : Int} {p q x r : Rat} {S : Sto}
theorem num_pos (r : Rat) : (0 < r.num) = (0 < r) := by
  have h1 := @Rat.num_nonneg r
  have h2 := @Rat.num_eq_zero r
  refine propext ⟨fun h => ?_, fun h => ?_⟩
  · have a := h1.mp (by omega)
    have b : r ≠ 0 := fun e => by rw [e] at h; exact absurd h (by decide)
    grind
  · have a := h1.mpr (by grind)
    have b : r.num ≠ 0 := fun e => by have := h2.mp e; grind
    omega
theorem above_nought_ok (h : 0 < p) (S : Sto) : F_is_above_nought [fq p] S = .ok (.bl true) S := by
  have e1 := fun S => is_fraction_ok (p := p) S
  have e2 : 0 < p.num := by rw [num_pos]; exact h
  unfold F_is_above_nought b_is_above_nought
  refine run_eq0 ?_ (by simp [Pl])
  simp only [fq] at e1 ⊢
  simp [c_is_above_nought_0, e1, e2]
theorem is_whole_ok (i : Int) (S : Sto) : F_is_whole [.int i] S = .ok (.bl true) S := by
  unfold F_is_whole b_is_whole
  refine run_eq0 ?_ (by simp [Pl])
  simp [c_is_whole_0]
theorem is_tuple_ok (xs : List D) (n : Nat) (h : xs.length = n) (S : Sto) : F_is_tuple_of [.tup xs, .int n] S = .ok (.bl true) S := by
  unfold F_is_tuple_of b_is_tuple_of
  refine run_eq0 ?_ (by simp [Pl])
  simp [c_is_tuple_of_0, h]
theorem within_ok {i a b : Int} (h1 : a ≤ i) (h2 : i ≤ b) (S : Sto) : F_is_whole_within [.int i, .int a, .int b] S = .ok (.bl true) S := by
  unfold F_is_whole_within b_is_whole_within
  refine run_eq0 ?_ (by simp [Pl])
  simp [c_is_whole_within_0, eChain, h1, h2]
theorem is_stretch_ok (h : Sok B s) (S : Sto) : F_is_stretch [sd s] S = .ok (.bl true) S := by
  have e1 := fun S => is_tuple_ok [.int s.m, fq s.f, fq s.l] 3 rfl S
  have e2 := fun S => within_ok h.m1 h.m2 S
  have e3 := fun S => above_nought_ok h.f0 S
  have e4 := fun S => above_nought_ok h.l0 S
  unfold F_is_stretch b_is_stretch
  refine run_eq0 ?_ (by simp [Pl])
  refine (seq_nx (ρ' := [some (sd s), none, none, none]) (S' := S) (by
    have := e1 S
    simp only [sd]
    simp at this
    simp [c_is_stretch_0, this]) _).trans ?_
  refine (seq_nx (ρ' := [some (sd s), some (.int s.m), some (fq s.f), some (fq s.l)]) (S' := S) (by simp [c_is_stretch_1, sd]) _).trans ?_
  simp [c_is_stretch_2, e2, e3, e4]
end
section
variable {B : Nat} {s t : St}
theorem goes_on_ok (h : Sok B s) (h' : Sok B t) (S : Sto) : F_goes_on [sd s, sd t] S = .ok (.bl (decide (s.l = t.f ∧ rise s = rise t))) S := by
  have e1 := fun S => rise_ok h S
  have e2 := fun S => rise_ok h' S
  have i1 : ∀ S, oIx (sd s) (.int 2) S = .ok (fq s.l) S := fun S => rfl
  have i2 : ∀ S, oIx (sd t) (.int 1) S = .ok (fq t.f) S := fun S => rfl
  unfold F_goes_on b_goes_on
  refine run_eq0 ?_ (by simp [Pl])
  by_cases hl : s.l = t.f
  · by_cases hr : rise s = rise t
    · simp [c_goes_on_0, i1, i2, hl, e1, e2, hr]
    · simp [c_goes_on_0, i1, i2, hl, e1, e2, hr]
  · simp [c_goes_on_0, i1, i2, hl]
end
end Fx
set_option Elab.async false
set_option linter.all false
set_option maxRecDepth 100000
namespace DV
open PySem L2
/-- what is iterated: n things, whatever the loop does -/
def It.Is (it : Itd) (n : Nat) (xs : Nat → D) (S : Sto) : Prop := ∀ i, i ≤ n → it.at' i S = some (if i < n then some (xs i) else none)
theorem isTup (xs : List D) (S : Sto) : It.Is (.tup xs) xs.length (fun i => xs[i]?.getD .non) S := fun i hi => by
  by_cases h : i < xs.length
  · simp [Itd.at', h]
  · simp [Itd.at', show i = xs.length by omega]
theorem isVl (xs : List D) (S : Sto) : It.Is (.vlst xs) xs.length (fun i => xs[i]?.getD .non) S := fun i hi => by
  by_cases h : i < xs.length
  · simp [Itd.at', h]
  · simp [Itd.at', show i = xs.length by omega]
theorem isRng (lo : Int) (n : Nat) (S : Sto) : It.Is (.rng lo n) n (fun i => .int (lo + i)) S := fun i hi => by
  simp [Itd.at']
theorem isZipT (xs ys : List D) (S : Sto) (h : xs.length = ys.length) : It.Is (.zipT xs ys) xs.length (fun i => .tup [xs[i]?.getD .non, ys[i]?.getD .non]) S := fun i hi => by
  by_cases h' : i < xs.length
  · simp [Itd.at', h', show i < ys.length by omega]
  · simp [Itd.at', show i = xs.length by omega]
theorem isZipV (xs ys : List D) (S : Sto) (h : xs.length = ys.length) : It.Is (.zipV xs ys) xs.length (fun i => .tup [xs[i]?.getD .non, ys[i]?.getD .non]) S := fun i hi => by
  by_cases h' : i < xs.length
  · simp [Itd.at', h', show i < ys.length by omega]
  · simp [Itd.at', show i = xs.length by omega]
/-- the ends of a loop's suite -/
def loP (N : Pq) (I : Lc → Sto → Prop) : Pq := ⟨I, N.rt, N.ex, N.nx, I⟩
theorem ws_forGo {it : Itd} {t : Tg} {b : SF} {N : Pq} {n : Nat} {xs : Nat → D} (P : Nat → Lc → Sto → Prop)
    (hat : ∀ i ρ S, i ≤ n → P i ρ S → it.at' i S = some (if i < n then some (xs i) else none))
    (step : ∀ i ρ S, i < n → P i ρ S → ∃ ρ1, t.put (xs i) ρ S = some ρ1 ∧ Ws (b ρ1 S) (loP N (P (i + 1))))
    (stop : ∀ ρ S, P n ρ S → N.nx ρ S) : ∀ m i ρ S, n ≤ m + i → i ≤ n → P i ρ S → Ws (forGo it t b m i ρ S) N
  | m, i, ρ, S, h1, h2, p => by
    have a := hat i ρ S h2 p
    unfold forGo
    by_cases hi : i < n
    · rw [if_pos hi] at a
      simp only [a]
      match m with
      | 0 => omega
      | m + 1 =>
        obtain ⟨ρ1, e1, w⟩ := step i ρ S hi p
        simp only [e1]
        cases e : b ρ1 S with
        | nx ρ' S' => rw [e] at w; exact ws_forGo P hat step stop m (i + 1) ρ' S' (by omega) (by omega) w
        | ct ρ' S' => rw [e] at w; exact ws_forGo P hat step stop m (i + 1) ρ' S' (by omega) (by omega) w
        | bk ρ' S' => rw [e] at w; exact w
        | rt d S' => rw [e] at w; exact w
        | ex c ρ' S' => rw [e] at w; exact w
        | no => rw [e] at w; exact w.elim
    · rw [if_neg hi] at a
      simp only [a]
      have : i = n := by omega
      subst this
      exact stop ρ S p
/-- a loop over what is known to be iterated -/
theorem ws_for {a : IF} {it : Itd} {t : Tg} {b : SF} {N : Pq} {ρ : Lc} {S S1 : Sto} {n : Nat} {xs : Nat → D} (ha : a ρ S = .ok it S1) (P : Nat → Lc → Sto → Prop)
    (hsz : it.size S1 = n)
    (hat : ∀ i ρ S, i ≤ n → P i ρ S → it.at' i S = some (if i < n then some (xs i) else none)) (h0 : P 0 ρ S1)
    (step : ∀ i ρ S, i < n → P i ρ S → ∃ ρ1, t.put (xs i) ρ S = some ρ1 ∧ Ws (b ρ1 S) (loP N (P (i + 1))))
    (stop : ∀ ρ S, P n ρ S → N.nx ρ S) : Ws (sFor a t b ρ S) N := by
  simp only [sFor, ha, sb_ok, hsz]
  exact ws_forGo P hat step stop n 0 ρ S1 (by omega) (by omega) h0
/-- over a tuple or a list by value -/
theorem ws_forV {α : Type} {a : IF} {it : Itd} {t : Tg} {b : SF} {N : Pq} {ρ : Lc} {S S1 : Sto} {qs : List α} {g : α → D} (ha : a ρ S = .ok it S1) (hit : it = .tup (qs.map g) ∨ it = .vlst (qs.map g)) (P : Nat → Lc → Sto → Prop) (h0 : P 0 ρ S1)
    (step : ∀ (i : Nat) (h : i < qs.length) ρ S, P i ρ S → ∃ ρ1, t.put (g qs[i]) ρ S = some ρ1 ∧ Ws (b ρ1 S) (loP N (P (i + 1))))
    (stop : ∀ ρ S, P qs.length ρ S → N.nx ρ S) : Ws (sFor a t b ρ S) N := by
  refine ws_for (n := qs.length) (xs := fun i => (qs.map g)[i]?.getD .non) ha P ?_ ?_ h0 ?_ stop
  · rcases hit with rfl | rfl <;> simp [Itd.size]
  · intro i ρ S hi _
    rcases hit with rfl | rfl
    · simpa using isTup (qs.map g) S i (by simpa using hi)
    · simpa using isVl (qs.map g) S i (by simpa using hi)
  · intro i ρ S hi p
    have := step i hi ρ S p
    simpa [hi] using this
/-- over range(n) -/
theorem ws_forR {a : IF} {lo : Int} {n : Nat} {t : Tg} {b : SF} {N : Pq} {ρ : Lc} {S S1 : Sto} (ha : a ρ S = .ok (.rng lo n) S1) (P : Nat → Lc → Sto → Prop) (h0 : P 0 ρ S1)
    (step : ∀ (i : Nat) (h : i < n) ρ S, P i ρ S → ∃ ρ1, t.put (.int (lo + i)) ρ S = some ρ1 ∧ Ws (b ρ1 S) (loP N (P (i + 1))))
    (stop : ∀ ρ S, P n ρ S → N.nx ρ S) : Ws (sFor a t b ρ S) N :=
  ws_for (n := n) (xs := fun i => .int (lo + i)) ha P rfl (fun i ρ S hi _ => isRng lo n S i hi) h0 (fun i ρ S hi p => step i hi ρ S p) stop
section
variable {it : Itd} {t : Tg} {c : TF} {e : EF} {ρ : Lc} {S0 : Sto} {n : Nat} {xs : Nat → D} {Q : D → Sto → Prop} {E : Str → Sto → Prop}
def nE : Str → Sto → Prop := fun _ _ => False
theorem wp_lcGo {k : Nat} (P : Nat → List D → Sto → Prop)
    (hat : ∀ i acc T, i ≤ n → P i acc T → it.at' i (T ++ [.lst acc]) = some (if i < n then some (xs i) else none))
    (hk : ∀ i acc T, P i acc T → T.length = k ∧ acc.length ≤ i)
    (step : ∀ i acc T, i < n → P i acc T → ∃ ρ1, t.put (xs i) ρ (T ++ [.lst acc]) = some ρ1 ∧
      Wp (c ρ1 (T ++ [.lst acc])) (fun b U => ∃ T1, U = T1 ++ [.lst acc] ∧ T1.length = k ∧ (b = true → Wp (e ρ1 U) (fun y V => ∃ T2, V = T2 ++ [.lst acc] ∧ T2.length = k ∧ P (i + 1) (acc ++ [y]) T2) nE) ∧ (b = false → P (i + 1) acc T1)) nE)
    (hn : n ≤ 1000000)
    (stop : ∀ acc T, P n acc T → Q (.ob k) (T ++ [.lst acc])) : ∀ m i acc T, n ≤ m + i → i ≤ n → P i acc T → Wp (lcGo it t c e ρ k m i (T ++ [.lst acc])) Q nE
  | m, i, acc, T, h1, h2, p => by
    have a := hat i acc T h2 p
    obtain ⟨hT, hacc⟩ := hk i acc T p
    unfold lcGo
    by_cases hi : i < n
    · rw [if_pos hi] at a
      simp only [a]
      match m with
      | 0 => omega
      | m + 1 =>
        obtain ⟨ρ1, e1, w⟩ := step i acc T hi p
        simp only [e1]
        cases ec : c ρ1 (T ++ [.lst acc]) with
        | no => rw [ec] at w; exact w.elim
        | ex _ _ => rw [ec] at w; exact w.elim
        | ok b U =>
          rw [ec] at w
          obtain ⟨T1, rfl, hT1, w1, w2⟩ := w
          cases b with
          | false => exact wp_lcGo P hat hk step hn stop m (i + 1) acc T1 (by omega) (by omega) (w2 rfl)
          | true =>
            have w3 := w1 rfl
            cases ee : e ρ1 (T1 ++ [.lst acc]) with
            | no => rw [ee] at w3; exact w3.elim
            | ex _ _ => rw [ee] at w3; exact w3.elim
            | ok y V =>
              rw [ee] at w3
              obtain ⟨T2, rfl, hT2, p'⟩ := w3
              have g : szOk acc.length = true := gd_of (by omega)
              have at2 : (T2 ++ [O.lst acc])[k]? = some (.lst acc) := by rw [← hT2]; simp
              have set2 : (T2 ++ [O.lst acc]).set k (.lst (acc ++ [y])) = T2 ++ [.lst (acc ++ [y])] := by rw [← hT2]; simp
              simp only [ee, at2, g, if_true, set2]
              exact wp_lcGo P hat hk step hn stop m (i + 1) (acc ++ [y]) T2 (by omega) (by omega) p'
    · rw [if_neg hi] at a
      simp only [a]
      have : i = n := by omega
      subst this
      exact stop acc T p
/-- a comprehension; what it makes is by value -/
theorem wp_lc {a : IF} {own : List Nat} {S S1 : Sto} (ha : a ρ S = .ok it S1) (P : Nat → List D → Sto → Prop)
    (hsz : it.size S1 = n)
    (hat : ∀ i acc T, i ≤ n → P i acc T → it.at' i (T ++ [.lst acc]) = some (if i < n then some (xs i) else none))
    (hn : n ≤ 1000000) (h0 : P 0 [] S1)
    (hk : ∀ i acc T, P i acc T → Kp S1 T ∧ acc.length ≤ i ∧ Pls 39 acc)
    (step : ∀ i acc T, i < n → P i acc T → ∃ ρ1, t.put (xs i) (wipeD ρ own) (T ++ [.lst acc]) = some ρ1 ∧
      Wp (c ρ1 (T ++ [.lst acc])) (fun b U => ∃ T1, U = T1 ++ [.lst acc] ∧ T1.length = S1.length ∧ (b = true → Wp (e ρ1 U) (fun y V => ∃ T2, V = T2 ++ [.lst acc] ∧ T2.length = S1.length ∧ P (i + 1) (acc ++ [y]) T2) nE) ∧ (b = false → P (i + 1) acc T1)) nE)
    (stop : ∀ acc T, P n acc T → Q (.lst acc) T) : Wp (eLc a t c e own ρ S) Q E := by
  have w := wp_lcGo (Q := fun d V => ∃ acc T, d = .ob S1.length ∧ V = T ++ [.lst acc] ∧ P n acc T) (k := S1.length) (ρ := wipeD ρ own) P hat (fun i acc T p => ⟨(hk i acc T p).1.len, (hk i acc T p).2.1⟩) step hn (fun acc T p => ⟨acc, T, rfl, rfl, p⟩) n 0 [] S1 (by omega) (by omega) h0
  obtain ⟨d, V, ee, acc, T, rfl, rfl, p⟩ := w.get
  obtain ⟨kp, _, pl⟩ := hk n acc T p
  simp only [eLc, ha, bind_ok, hsz, ee]
  have f : frz S1.length (T ++ [O.lst acc]) 40 (.ob S1.length) = some (.lst acc) := by
    have l : ¬ S1.length < S1.length := by omega
    have at2 : (T ++ [O.lst acc])[S1.length]? = some (.lst acc) := by rw [← kp.len]; simp
    simp only [frz]
    simp [at2, frzs_pl 39 acc pl]
  simp only [dropR, f, kp.drop]
  exact stop acc T p
end
/-- a comprehension over a tuple or a list by value whose element changes nothing -/
theorem lc_map {α : Type} {a : IF} {it : Itd} {t : Tg} {e : EF} {own : List Nat} {ρ : Lc} {S S1 : Sto} {qs : List α} {g f : α → D} (ha : a ρ S = .ok it S1) (hit : it = .tup (qs.map g) ∨ it = .vlst (qs.map g))
    (hq : qs.length ≤ 1000000) (hf : ∀ q ∈ qs, Pl 38 (f q))
    (step : ∀ q ∈ qs, ∀ S2, ∃ ρ1, t.put (g q) (wipeD ρ own) S2 = some ρ1 ∧ e ρ1 S2 = .ok (f q) S2) :
    eLc a t cYes e own ρ S = .ok (.lst (qs.map f)) S1 := by
  refine eq_of_wp (wp_lc (n := qs.length) (xs := fun i => (qs.map g)[i]?.getD .non) ha (fun i acc T => T = S1 ∧ acc = (qs.take i).map f) ?_ ?_ hq (by simp) ?_ ?_ ?_)
  · rcases hit with rfl | rfl <;> simp [Itd.size]
  · intro i acc T hi _
    rcases hit with rfl | rfl
    · simpa using isTup (qs.map g) (T ++ [.lst acc]) i (by simpa using hi)
    · simpa using isVl (qs.map g) (T ++ [.lst acc]) i (by simpa using hi)
  · rintro i acc T ⟨rfl, rfl⟩
    refine ⟨.rfl', by simp; omega, pls_iff.mpr ?_⟩
    intro d hd
    obtain ⟨q, hq, rfl⟩ := List.mem_map.mp hd
    exact hf q (List.mem_of_mem_take hq)
  · rintro i acc T hi ⟨rfl, rfl⟩
    obtain ⟨ρ1, e1, e2⟩ := step qs[i] (List.getElem_mem hi) (T ++ [.lst ((qs.take i).map f)])
    refine ⟨ρ1, by simpa [hi] using e1, ?_⟩
    rw [cYes_eq]
    refine ⟨T, rfl, rfl, fun _ => ?_, fun h => by cases h⟩
    rw [e2]
    refine ⟨T, rfl, rfl, rfl, ?_⟩
    rw [List.take_succ, List.map_append]; simp [hi]
  · rintro acc T ⟨rfl, rfl⟩
    simp
/-- the same with a condition -/
theorem lc_filter {α : Type} {a : IF} {it : Itd} {t : Tg} {c : TF} {e : EF} {own : List Nat} {ρ : Lc} {S S1 : Sto} {qs : List α} {g f : α → D} {k : α → Bool} (ha : a ρ S = .ok it S1) (hit : it = .tup (qs.map g) ∨ it = .vlst (qs.map g))
    (hq : qs.length ≤ 1000000) (hf : ∀ q ∈ qs, Pl 38 (f q))
    (step : ∀ q ∈ qs, ∀ S2, ∃ ρ1, t.put (g q) (wipeD ρ own) S2 = some ρ1 ∧ c ρ1 S2 = .ok (k q) S2 ∧ (k q = true → e ρ1 S2 = .ok (f q) S2)) :
    eLc a t c e own ρ S = .ok (.lst ((qs.filter k).map f)) S1 := by
  refine eq_of_wp (wp_lc (n := qs.length) (xs := fun i => (qs.map g)[i]?.getD .non) ha (fun i acc T => T = S1 ∧ acc = ((qs.take i).filter k).map f) ?_ ?_ hq (by simp) ?_ ?_ ?_)
  · rcases hit with rfl | rfl <;> simp [Itd.size]
  · intro i acc T hi _
    rcases hit with rfl | rfl
    · simpa using isTup (qs.map g) (T ++ [.lst acc]) i (by simpa using hi)
    · simpa using isVl (qs.map g) (T ++ [.lst acc]) i (by simpa using hi)
  · rintro i acc T ⟨rfl, rfl⟩
    refine ⟨.rfl', ?_, pls_iff.mpr ?_⟩
    · rw [List.length_map]
      exact Nat.le_trans (List.length_filter_le _ _) (by simp; omega)
    · intro d hd
      obtain ⟨q, hq, rfl⟩ := List.mem_map.mp hd
      exact hf q (List.mem_of_mem_take (List.mem_filter.mp hq).1)
  · rintro i acc T hi ⟨rfl, rfl⟩
    obtain ⟨ρ1, e1, e2, e3⟩ := step qs[i] (List.getElem_mem hi) (T ++ [.lst (((qs.take i).filter k).map f)])
    refine ⟨ρ1, by simpa [hi] using e1, ?_⟩
    rw [e2]
    have tk : qs.take (i + 1) = qs.take i ++ [qs[i]] := by rw [List.take_succ]; simp [hi]
    refine ⟨T, rfl, rfl, fun h => ?_, fun h => ⟨rfl, ?_⟩⟩
    · rw [e3 h]
      refine ⟨T, rfl, rfl, rfl, ?_⟩
      rw [tk, List.filter_append, List.map_append]
      simp [h]
    · rw [tk, List.filter_append, List.map_append]
      simp [h]
  · rintro acc T ⟨rfl, rfl⟩
    simp
theorem allBl_map {α : Type} (qs : List α) (f : α → Bool) : allBl (qs.map fun q => D.bl (f q)) = some (qs.map f) := by
  induction qs with
  | nil => rfl
  | cons q qs ih => simp only [List.map_cons, allBl, ih]; rfl
theorem allInt_map {α : Type} (qs : List α) (f : α → Int) : allInt (qs.map fun q => D.int (f q)) = some (qs.map f) := by
  induction qs with
  | nil => rfl
  | cons q qs ih => simp only [List.map_cons, allInt, ih]; rfl
end DV
set_option Elab.async false
set_option linter.all false
set_option maxRecDepth 100000
set_option exponentiation.threshold 20000
namespace Fx
open PySem L2 DV
/-- a tempo as data -/
def td (ss : List St) (r : Rat) : D := .tup [.tup (ss.map sd), fq r]
/-- a right tempo -/
structure Tok (B : Nat) (ss : List St) (r : Rat) : Prop where
  n24 : ss.length ≤ 24
  all : ∀ s ∈ ss, Sok B s
  r0 : 0 < r
  br : Bq B r
  sum : (ss.map St.m).sum ≤ 200000
  plain : ∀ (i : Nat) (h : i + 1 < ss.length), ¬ (ss[i].l = ss[i + 1].f ∧ rise ss[i] = rise ss[i + 1])
  last : ∀ (h : ss ≠ []), ¬ ((ss.getLast h).f = r ∧ (ss.getLast h).l = r)
theorem cn_sd {s : St} {k : Nat} : Cn (k + 5) (sd s) := by
  simp only [sd, Cn, Cns]
  exact ⟨trivial, cn_fq, cn_fq, trivial⟩
theorem cn_td {ss : List St} {r : Rat} {k : Nat} : Cn (k + 9) (td ss r) := by
  simp only [td, Cn, Cns, and_true]
  refine ⟨cns_iff.mpr fun d hd => ?_, cn_fq⟩
  obtain ⟨s, _, rfl⟩ := List.mem_map.mp hd
  exact cn_sd
theorem pl_td {ss : List St} {r : Rat} {k : Nat} : Pl (k + 9) (td ss r) := cn_td.pl
theorem oNe_pair (p q p' q' : Rat) (S : Sto) : oNe (.tup [fq p, fq q]) (.tup [fq p', fq q']) S = .ok (.bl (!decide (p = p' ∧ q = q'))) S := by
  rw [oNe_cn (by simp only [Cn, Cns, and_true]; exact ⟨cn_fq, cn_fq⟩) (by simp only [Cn, Cns, and_true]; exact ⟨cn_fq, cn_fq⟩)]
  have : gd (D.tup [fq p, fq q] = D.tup [fq p', fq q']) = decide (p = p' ∧ q = q') := by
    by_cases h : p = p' ∧ q = q'
    · rw [decide_eq_true h, gd_of (by rw [h.1, h.2])]
    · rw [decide_eq_false h]
      cases z : gd (D.tup [fq p, fq q] = D.tup [fq p', fq q']) with
      | true =>
        have := of_gd z
        simp only [D.tup.injEq, List.cons.injEq, and_true] at this
        exact absurd ⟨fq_inj.mp this.1, fq_inj.mp this.2⟩ h
      | false => rfl
  rw [this]
section
variable {B : Nat} {ss : List St} {r : Rat} {S : Sto}
theorem at_last {α β : Type} {ss : List α} {g : α → β} (he : ss ≠ []) : atI (ss.map g) (-1) = some (g (ss.getLast he)) := by
  have hp : 0 < ss.length := List.length_pos_iff.mpr he
  unfold atI ixN
  rw [List.length_map, if_neg (by decide), if_pos (by omega)]
  rw [show (-1 + (ss.length : Int)).toNat = ss.length - 1 by omega]
  simp only [Option.bind_some, List.getElem?_map, List.getLast_eq_getElem]
  rw [List.getElem?_eq_getElem (by omega)]; rfl
theorem is_plain_ok (h : Tok B ss r) (S : Sto) : F_is_plain [.tup (ss.map sd), fq r] S = .ok (.bl true) S := by
  have n24 := h.n24
  refine eq_of_wp (wp_run ?_)
  show Ws (b_is_plain [some (.tup (ss.map sd)), some (fq r), none] S) _
  unfold b_is_plain
  refine ws_seq ?_
  refine ws_forR (lo := 1) (n := ss.length - 1) (S1 := S) ?_ (fun i ρ S' => ∃ y, ρ = [some (.tup (ss.map sd)), some (fq r), y] ∧ S' = S) ⟨_, rfl, rfl⟩ ?_ ?_
  · have g : gd (-(2 ^ 62) ≤ (1 : Int) ∧ (1 : Int) < 2 ^ 62 ∧ -(2 ^ 62) ≤ (ss.length : Int) ∧ (ss.length : Int) < 2 ^ 62) = true := gd_of (by omega)
    simp only [iRng_eq, aCons_eq, aNil_eq, eC_eq, bind_ok, eB_eq, eVar_0, cLen_tup, List.length_map, g, if_true]
    rw [show ((ss.length : Int) - 1).toNat = ss.length - 1 by omega]
  · rintro i hi ρ S' ⟨y, rfl, rfl⟩
    have g := fun S => goes_on_ok (h.all ss[i] (List.getElem_mem _)) (h.all ss[i + 1] (List.getElem_mem (by omega))) S
    simp only [decide_eq_false (h.plain i (by omega))] at g
    have i1 : atI (ss.map sd) ((1 : Int) + (i : Int) - 1) = some (sd ss[i]) := by
      rw [show (1 : Int) + (i : Int) - 1 = (i : Int) by omega, atI_cast, List.getElem?_map, List.getElem?_eq_getElem (by omega)]
      rfl
    have i2 : atI (ss.map sd) ((1 : Int) + (i : Int)) = some (sd ss[i + 1]) := by
      rw [show (1 : Int) + (i : Int) = ((i + 1 : Nat) : Int) by omega, atI_cast, List.getElem?_map, List.getElem?_eq_getElem (by omega)]
      rfl
    refine ⟨_, put_nm _ _ _ _, ?_⟩
    have e : c_is_plain_0_0 [some (.tup (ss.map sd)), some (fq r), some (.int ((1 : Int) + (i : Int)))] S' = .nx [some (.tup (ss.map sd)), some (fq r), some (.int ((1 : Int) + (i : Int)))] S' := by
      simp [c_is_plain_0_0, i1, i2, g]
    simp only [List.set]
    rw [e]
    exact ⟨_, rfl, rfl⟩
  · rintro ρ S' ⟨y, rfl, rfl⟩
    by_cases he : ss = []
    · subst he
      have : c_is_plain_1 [some (.tup (([] : List St).map sd)), some (fq r), y] S' = .rt (.bl true) S' := by simp [c_is_plain_1]
      dsimp only
      rw [this]
      exact end_pure0 (by simp [Pl]) ⟨rfl, rfl⟩
    · have i1 := at_last (g := sd) he
      have c1 : ∀ S, oSl (sd (ss.getLast he)) (some 1) none S = .ok (.tup [fq (ss.getLast he).f, fq (ss.getLast he).l]) S := fun S => rfl
      have l := h.last he
      have ne : ss.isEmpty = false := by simpa using he
      have : c_is_plain_1 [some (.tup (ss.map sd)), some (fq r), y] S' = .rt (.bl true) S' := by simp [c_is_plain_1, ne, i1, c1, oNe_pair, l]
      dsimp only
      rw [this]
      exact end_pure0 (by simp [Pl]) ⟨rfl, rfl⟩
theorem is_tempo_ok (h : Tok B ss r) (S : Sto) : F_is_tempo [td ss r] S = .ok (.bl true) S := by
  have n24 := h.n24
  have e1 := fun S => is_tuple_ok [.tup (ss.map sd), fq r] 2 rfl S
  have e2 := fun S => above_nought_ok h.r0 S
  have e3 := fun S => is_plain_ok h S
  have l1 : ∀ S, eLc (iSeq (eVar 1)) (.nm 3) cYes (eCall F_is_stretch (aCons (eVar 3) aNil)) [3] [some (td ss r), some (.tup (ss.map sd)), some (fq r), none] S = .ok (.lst (ss.map fun _ => D.bl true)) S := fun S =>
    lc_map (it := .tup (ss.map sd)) (qs := ss) (g := sd) (by simp) (.inl rfl) (by omega) (fun _ _ => by simp [Pl]) (by
      intro s hs S2
      have := is_stretch_ok (h.all s hs) S2
      exact ⟨_, put_nm _ _ _ _, by simp [wipeD, this]⟩)
  have l2 : ∀ S, eLc (iSeq (eVar 1)) (.nm 3) cYes (eOp oIx (eVar 3) (eC (.int 0))) [3] [some (td ss r), some (.tup (ss.map sd)), some (fq r), none] S = .ok (.lst (ss.map fun s => D.int s.m)) S := fun S =>
    lc_map (it := .tup (ss.map sd)) (qs := ss) (g := sd) (by simp) (.inl rfl) (by omega) (fun _ _ => by simp [Pl]) (by
      intro s hs S2
      exact ⟨_, put_nm _ _ _ _, by simp [wipeD, sd]⟩)
  have a1 : ∀ S, cAll [.lst (ss.map fun _ => D.bl true)] S = .ok (.bl true) S := fun S => by
    have := allBl_map ss (fun _ => true)
    simp only [cAll, lstOf_lst, this]
    simp
  have a2 : ∀ S, cSum [.lst (ss.map fun s => D.int s.m)] S = .ok (.int (ss.map St.m).sum) S := fun S => by
    have := allInt_map ss St.m
    simp only [cSum, lstOf_lst, this]
  unfold F_is_tempo b_is_tempo
  refine run_eq0 ?_ (by simp [Pl])
  refine (seq_nx (ρ' := [some (td ss r), none, none, none]) (S' := S) (by
    have := e1 S
    simp only [td]
    simp at this
    simp [c_is_tempo_0, this]) _).trans ?_
  refine (seq_nx (ρ' := [some (td ss r), some (.tup (ss.map sd)), some (fq r), none]) (S' := S) (by simp [c_is_tempo_1, td]) _).trans ?_
  refine (seq_nx (ρ' := [some (td ss r), some (.tup (ss.map sd)), some (fq r), none]) (S' := S) (by
    have : ¬ (24 : Int) < ss.length := by omega
    simp [c_is_tempo_2, this]) _).trans ?_
  refine (seq_nx (ρ' := [some (td ss r), some (.tup (ss.map sd)), some (fq r), none]) (S' := S) (by
    simp only [c_is_tempo_3, sIf_eq, bOr_eq, bNot_eq, tTru_eq, eCall_eq, aCons_eq, aNil_eq, eVar_s, eVar_0, bind_ok, e2, truD_bl, eB_eq, l1, a1, Bool.not_true, Bool.false_eq_true, if_false, sb_ok, sNil_eq]) _).trans ?_
  have sm := h.sum
  simp only [c_is_tempo_4, sRet_eq, eAnd_eq, eOp_eq, eB_eq, aCons_eq, aNil_eq, l2, bind_ok, a2, eC_eq, oLe_int, decide_eq_true sm, truD_bl, eCall_eq, eVar_s, eVar_0, e3, sb_ok]
theorem refuse_ok (h : Tok B ss r) (S : Sto) : F_refuse_no_tempo [td ss r] S = .ok .non S := by
  have e1 := is_tempo_ok h S
  refine eq_of_wp (wp_run ?_)
  show Ws (c_refuse_no_tempo_0 [some (td ss r)] S) _
  have : c_refuse_no_tempo_0 [some (td ss r)] S = .nx [some (td ss r)] S := by simp [c_refuse_no_tempo_0, e1]
  rw [this]
  exact ⟨S, [], by simp, .rfl', rfl, rfl⟩
end
end Fx
set_option Elab.async false
set_option linter.all false
set_option maxRecDepth 100000
set_option exponentiation.threshold 20000
namespace DV
open PySem L2
section
variable {κ β : Type} [DecidableEq κ] {k k' : κ} {v : β}
theorem valK_put : ∀ {kvs : List (κ × β)}, valK (putKD kvs k v) k' = if k' = k then some v else valK kvs k' := by
  intro kvs
  unfold putKD
  by_cases h : (kvs.any fun kv => decide (kv.1 = k)) = true
  · rw [if_pos h]
    have z : valK (kvs.map fun kv => if kv.1 = k then (kv.1, v) else kv) k' = if k' = k then (valK kvs k').map (fun _ => v) else valK kvs k' := by
      clear h
      induction kvs with
      | nil => simp [valK]
      | cons p r ih =>
        rw [List.map_cons]
        by_cases hp : p.1 = k
        · rw [if_pos hp]
          by_cases hk : p.1 = k'
          · rw [valK_pos hk, valK_pos (p := (p.1, v)) hk]
            have : k' = k := by rw [← hk]; exact hp
            simp [this]
          · rw [valK_neg hk, valK_neg (p := (p.1, v)) hk, ih]
        · rw [if_neg hp]
          by_cases hk : p.1 = k'
          · have : ¬ k' = k := by rw [← hk]; exact hp
            rw [valK_pos hk, valK_pos hk, if_neg this]
          · rw [valK_neg hk, valK_neg hk, ih]
    rw [z]
    by_cases hk : k' = k
    · subst hk
      rw [if_pos rfl, if_pos rfl]
      have : ∃ u, valK kvs k' = some u := by
        obtain ⟨p, hp, hpk⟩ := List.any_eq_true.mp h
        unfold valK
        cases e : kvs.find? fun kv => decide (kv.1 = k') with
        | some u => exact ⟨u.2, rfl⟩
        | none => exact absurd (List.find?_eq_none.mp e p hp) (by simpa using hpk)
      obtain ⟨u, hu⟩ := this
      rw [hu]; rfl
    · rw [if_neg hk, if_neg hk]
  · rw [if_neg h]
    unfold valK
    rw [List.find?_append]
    by_cases hk : k' = k
    · subst hk
      have : kvs.find? (fun kv => decide (kv.1 = k')) = none := List.find?_eq_none.mpr fun p hp hq => h (List.any_eq_true.mpr ⟨p, hp, hq⟩)
      simp [this]
    · have : ¬ k = k' := fun e => hk e.symm
      simp [hk, this]
theorem putKD_mem {kvs : List (κ × β)} {p : κ × β} (h : p ∈ putKD kvs k v) : p.2 = v ∨ p ∈ kvs := by
  unfold putKD at h
  split at h
  · obtain ⟨q, hq, e⟩ := List.mem_map.mp h
    split at e
    · subst e; exact .inl rfl
    · subst e; exact .inr hq
  · rcases List.mem_append.mp h with h | h
    · exact .inr h
    · simp at h; subst h; exact .inl rfl
end
end DV
namespace Fx
open PySem L2 DV
def sm (ss : List St) : Int := (ss.map St.m).sum
def tm (ss : List St) : Rat := (ss.map fun s => tot s s.m).sum
@[simp] theorem sm_nil : sm [] = 0 := rfl
@[simp] theorem tm_nil : tm [] = 0 := rfl
@[simp] theorem sm_cons {s : St} {ss : List St} : sm (s :: ss) = s.m + sm ss := rfl
@[simp] theorem tm_cons {s : St} {ss : List St} : tm (s :: ss) = tot s s.m + tm ss := rfl
theorem sm_app {xs ys : List St} : sm (xs ++ ys) = sm xs + sm ys := by
  induction xs with
  | nil => simp
  | cons x xs ih => simp only [List.cons_append, sm_cons, ih]; omega
section
variable {B : Nat} {ss : List St} {r p x : Rat} {S : Sto}
theorem sm_nonneg : ∀ {ss : List St}, (∀ s ∈ ss, Sok B s) → 0 ≤ sm ss
  | [], _ => by simp
  | s :: ss, h => by
    have := (h s (by simp)).m1
    have := sm_nonneg (ss := ss) fun s hs => h s (by simp [hs])
    rw [sm_cons]; omega
theorem sm_take_le {i : Nat} (h : ∀ s ∈ ss, Sok B s) : 0 ≤ sm (ss.take i) ∧ sm (ss.take i) ≤ sm ss := by
  have a := sm_nonneg (ss := ss.take i) fun s hs => h s (List.mem_of_mem_take hs)
  have b := sm_nonneg (ss := ss.drop i) fun s hs => h s (List.mem_of_mem_drop hs)
  have c : sm ss = sm (ss.take i) + sm (ss.drop i) := by rw [← sm_app, List.take_append_drop]
  omega
theorem take_at {α : Type} {l : List α} {i : Nat} (h : i < l.length) : l.take (i + 1) = l.take i ++ [l[i]] := by rw [List.take_succ]; simp [h]
theorem sm_take_succ {i : Nat} (h : i < ss.length) : sm (ss.take (i + 1)) = sm (ss.take i) + ss[i].m := by
  rw [take_at h, sm_app]; simp
theorem Tok.take (h : Tok B ss r) (i : Nat) : (∀ s ∈ ss.take i, Sok B s) ∧ (ss.take i).length ≤ 24 := ⟨fun s hs => h.all s (List.mem_of_mem_take hs), by have := h.n24; simp; omega⟩
theorem Tok.sm0 (h : Tok B ss r) (i : Nat) : 0 ≤ sm (ss.take i) ∧ sm (ss.take i) ≤ 200000 := by
  have a := sm_take_le (i := i) h.all
  have b : sm ss ≤ 200000 := h.sum
  omega
/-- what a clock keeps of a stretch -/
def pt (a : Int) (b : Rat) (s : St) : D := .tup [.int a, .int (a + s.m), fq b, fq (b + tot s s.m), ln s]
def pts (ss : List St) : List D := (List.range ss.length).map fun i => pt (sm (ss.take i)) (tm (ss.take i)) (ss[i]?.getD ⟨0, 0, 0⟩)
def ckeys : List Str := ["rest", "parts", "step", "moment", "known"]
def cins (ss : List St) (r : Rat) (n : Nat) : O := .ins "Clock" ckeys [fq r, .ob (n + 1), .int (sm ss), fq (tm ss), .ob (n + 2)]
def kq (p : Rat) : List Key := [.inl p.num, .inl (p.den : Int)]
theorem kq_inj {p q : Rat} : kq p = kq q ↔ p = q := by
  constructor
  · intro h
    simp only [kq, List.cons.injEq, and_true] at h
    have a : p.num = q.num := Sum.inl.inj h.1
    have b : (p.den : Int) = (q.den : Int) := Sum.inl.inj h.2
    exact Rat.ext a (by exact_mod_cast b)
  · rintro rfl; rfl
/-- what a clock has found already is right -/
structure Kn (ss : List St) (r : Rat) (kn : List (List Key × D)) : Prop where
  val : ∀ p : Rat, 0 ≤ p → ∀ v, valK kn (kq p) = some v → v = fq (mo ss r p)
  pl : ∀ kv ∈ kn, ∃ x : Rat, kv.2 = fq x
theorem Kn.nil : Kn ss r [] := ⟨fun p _ v h => by simp [valK] at h, fun kv h => by simp at h⟩
theorem Kn.put {kn : List (List Key × D)} (h : Kn ss r kn) : Kn ss r (putKD kn (kq p) (fq (mo ss r p))) := ⟨fun q hq v e => by
  rw [valK_put] at e
  by_cases z : kq q = kq p
  · rw [if_pos z] at e
    rw [kq_inj.mp z]
    exact (Option.some.inj e).symm
  · rw [if_neg z] at e
    exact h.val q hq v e, fun kv hk => (putKD_mem hk).elim (fun e => ⟨_, e⟩) (h.pl kv)⟩
/-- a clock stands at n -/
structure Clk (S : Sto) (n : Nat) (ss : List St) (r : Rat) (kn : List (List Key × D)) : Prop where
  ins : S[n]? = some (cins ss r n)
  parts : S[n + 1]? = some (.lst (pts ss))
  known : S[n + 2]? = some (.dtt kn)
  ok : Kn ss r kn
end
end Fx
set_option Elab.async false
set_option linter.all false
set_option maxRecDepth 100000
set_option exponentiation.threshold 20000
namespace Fx
open PySem L2 DV
section
variable {B : Nat} {ss : List St} {r p x : Rat} {S : Sto} {n m : Nat} {kn : List (List Key × D)}
theorem Clk.set (h : Clk S n ss r kn) {kn' : List (List Key × D)} (ok : Kn ss r kn') : Clk (S.set (n + 2) (.dtt kn')) n ss r kn' := by
  have hl := (List.getElem?_eq_some_iff.mp h.known).1
  exact ⟨by rw [List.getElem?_set_ne (by omega)]; exact h.ins, by rw [List.getElem?_set_ne (by omega)]; exact h.parts, by rw [List.getElem?_set_self hl], ok⟩
end
end Fx
set_option Elab.async false
set_option linter.all false
set_option maxRecDepth 100000
set_option exponentiation.threshold 20000
namespace Fx
open PySem L2 DV
section
variable {B : Nat} {ss : List St} {r p x : Rat} {S : Sto} {n m : Nat} {k : Int}
/-- the length of a step, from a stretch on -/
theorem le_split : ∀ {ss : List St} {i : Nat} {k : Int}, (∀ s ∈ ss, Sok B s) → sm (ss.take i) ≤ k → le ss r k = le (ss.drop i) r (k - sm (ss.take i))
  | ss, 0, k, _, _ => by simp
  | [], i + 1, k, _, _ => by simp
  | s :: ss, i + 1, k, h, hk => by
    have h' : ∀ s ∈ ss, Sok B s := fun s hs => h s (by simp [hs])
    have n0 := (sm_take_le (ss := ss) (i := i) h').1
    simp only [List.take_succ_cons, List.drop_succ_cons, sm_cons] at hk ⊢
    have ih := le_split (ss := ss) (i := i) (k := k - s.m) h' (by omega)
    rw [show k - s.m - sm (ss.take i) = k - (s.m + sm (ss.take i)) by omega] at ih
    show (if k < s.m then len s k else le ss r (k - s.m)) = _
    rw [if_neg (by omega), ih]
theorem le_in {i : Nat} (hi : i < ss.length) (h : ∀ s ∈ ss, Sok B s) (a : sm (ss.take i) ≤ k) (b : k < sm (ss.take (i + 1))) : le ss r k = len ss[i] (k - sm (ss.take i)) := by
  rw [le_split h a, List.drop_eq_getElem_cons hi]
  rw [sm_take_succ hi] at b
  show (if k - sm (ss.take i) < ss[i].m then _ else _) = _
  rw [if_pos (by omega)]
theorem le_out (h : ∀ s ∈ ss, Sok B s) (a : sm ss ≤ k) : le ss r k = r := by
  have := le_split (r := r) (i := ss.length) h (by simpa using a)
  simpa [le] using this
theorem length_at_ok (h : Tok B ss r) (h0 : 0 ≤ k) (S : Sto) : F_length_at [td ss r, .int k] S = .ok (fq (le ss r k)) S := by
  refine eq_of_wp (wp_run ?_)
  show Ws (b_length_at [some (td ss r), some (.int k), none, none, none, none] S) _
  unfold b_length_at
  refine ws_step (ρ' := [some (td ss r), some (.int k), some (.tup (ss.map sd)), some (fq r), none, none]) (S' := S) (by simp [c_length_at_0, td]) ?_
  refine ws_step (ρ' := [some (td ss r), some (.int k), some (.tup (ss.map sd)), some (fq r), some (.int 0), none]) (S' := S) (by simp [c_length_at_1]) ?_
  refine ws_seq ?_
  refine ws_forV (qs := ss) (g := sd) (it := .tup (ss.map sd)) (S1 := S) (by simp) (.inl rfl) (fun i ρ S' => S' = S ∧ sm (ss.take i) ≤ k ∧ ∃ y5, ρ = [some (td ss r), some (.int k), some (.tup (ss.map sd)), some (fq r), some (.int (sm (ss.take i))), y5]) ⟨rfl, by simpa using h0, none, by simp⟩ ?_ ?_
  · rintro i hi ρ S' ⟨rfl, hle, y5, rfl⟩
    have ok := h.all _ (List.getElem_mem hi)
    have i0 : ∀ S, oIx (sd ss[i]) (.int 0) S = .ok (.int ss[i].m) S := fun S => rfl
    refine ⟨_, put_nm _ _ _ _, ?_⟩
    simp only [List.set]
    by_cases hk : k < sm (ss.take i) + ss[i].m
    · have hk' : k < sm (ss.take (i + 1)) := by rw [sm_take_succ hi]; exact hk
      have m2 := ok.m2
      have e1 := fun S => line_of_ok ok S
      have e2 := fun S => len_ok ok (k := k - sm (ss.take i)) (by omega) S
      rw [← le_in (r := r) hi h.all hle hk'] at e2
      have : c_length_at_2_0 [some (td ss r), some (.int k), some (.tup (ss.map sd)), some (fq r), some (.int (sm (ss.take i))), some (sd ss[i])] S' = .rt (fq (le ss r k)) S' := by
        simp [c_length_at_2_0, i0, hk, e1, e2]
      rw [ws_seq_eq, this]
      exact end_pure0 (E := nE) pl_fq ⟨rfl, rfl⟩
    · refine ws_step (ρ' := [some (td ss r), some (.int k), some (.tup (ss.map sd)), some (fq r), some (.int (sm (ss.take i))), some (sd ss[i])]) (S' := S') (by simp [c_length_at_2_0, i0, hk]) ?_
      have : c_length_at_2_1 [some (td ss r), some (.int k), some (.tup (ss.map sd)), some (fq r), some (.int (sm (ss.take i))), some (sd ss[i])] S' = .nx [some (td ss r), some (.int k), some (.tup (ss.map sd)), some (fq r), some (.int (sm (ss.take (i + 1)))), some (sd ss[i])] S' := by
        simp [c_length_at_2_1, sAug, i0, sm_take_succ hi]
      rw [this]
      exact ⟨rfl, by rw [sm_take_succ hi]; omega, _, rfl⟩
  · rintro ρ S' ⟨rfl, hle, y5, rfl⟩
    rw [List.take_length] at hle
    have lo := le_out (r := r) h.all hle
    have e : c_length_at_3 [some (td ss r), some (.int k), some (.tup (ss.map sd)), some (fq r), some (.int (sm (ss.take ss.length))), y5] S' = .rt (fq (le ss r k)) S' := by
      simp only [c_length_at_3, sRet_eq, eVar_s, eVar_0, sb_ok, lo]
    dsimp only
    rw [e]
    exact end_pure0 (E := nE) pl_fq ⟨rfl, rfl⟩
theorem length_of_ok (h : Tok B ss r) (h0 : 0 ≤ k) (S : Sto) : F_length_of [td ss r, .int k] S = .ok (fq (le ss r k)) S := by
  have e0 := fun S => refuse_ok h S
  have e1 := fun S => is_whole_ok k S
  have e2 := fun S => length_at_ok h h0 S
  have nk : ¬ k < 0 := by omega
  unfold F_length_of b_length_of
  refine run_eq0 ?_ pl_fq
  refine (seq_nx (ρ' := [some (td ss r), some (.int k)]) (S' := S) (by simp [c_length_of_0, e0]) _).trans ?_
  refine (seq_nx (ρ' := [some (td ss r), some (.int k)]) (S' := S) (by simp [c_length_of_1, e1, nk]) _).trans ?_
  simp [c_length_of_2, e2]
end
end Fx
set_option Elab.async false
set_option linter.all false
set_option maxRecDepth 100000
set_option exponentiation.threshold 20000
namespace Fx
open PySem L2 DV
section
variable {ns : List Int} {p : Int × Int} {T : Sto} {k n m : Nat} {Q : D → Sto → Prop} {E : Str → Sto → Prop} {u v : Rat}
theorem pow9 (S : Sto) : oPow (.int 10) (.int 9) S = .ok (.int 1000000000) S := oPow_int S (by decide)
theorem pos_frac {a b : Int} (ha : 0 < a) (hb : 0 < b) : 0 < Rat.divInt a b := by
  rw [divInt_div]
  have h1 : (0 : Rat) < (a : Rat) := by
    have : ((0 : Int) : Rat) < (a : Rat) := by rw [clt]; exact ha
    exact this
  have h2 : (0 : Rat) < (b : Rat) := by
    have : ((0 : Int) : Rat) < (b : Rat) := by rw [clt]; exact hb
    exact this
  refine pos_of_mul h2 ?_
  have : (b : Rat) * ((a : Rat) / (b : Rat)) = (a : Rat) := by grind
  rw [this]
  exact h1
theorem wp_above (h : Pk p k) (hk : k + 3 ≤ 1000000000000) (q : ∀ x p', 0 < x → Bq 30 x → Pk p' (k + 3) → Q (fq x) (Pn ns p' T)) : Wp (F_l_above [.ob 0] (Pn ns p T)) Q E := by
  refine wp_run ?_
  show Ws (b_l_above [some (.ob 0), none] (Pn ns p T)) _
  unfold b_l_above
  refine ws_seq ?_
  simp only [c_l_above_0, sAsg_nm, eOp_eq, eLst_eq, aCons_eq, aNil_eq, eC_eq, bind_ok, pow9, oSub_int, List.length_cons, List.length_nil, show szOk (0 + 1 + 1 + 1 + 1 + 1) = true from gd_of (by decide), if_true, eCall_eq, eVar_0, ws_sb, wp_bind]
  refine wp_draw h (by omega) (by decide) (by decide) fun d p1 d0 d1 h1 => ?_
  obtain ⟨v, hv, ev⟩ := atI_mem (l := [D.int 6, .int 6, .int 12, .int 12, .int (1000000000 - 1)]) d0 (by simpa using d1)
  have hv2 : ∃ w : Int, v = .int w ∧ 1 ≤ w ∧ w ≤ 999999999 := by
    simp only [List.mem_cons, List.not_mem_nil, or_false] at hv
    rcases hv with rfl | rfl | rfl | rfl | rfl <;> exact ⟨_, rfl, by decide, by decide⟩
  obtain ⟨w, rfl, w1, w2⟩ := hv2
  simp only [oIx_lst, ev, wp_ok, ws_nx, List.set, c_l_above_1, sRet_eq, eCall_eq, aCons_eq, aNil_eq, eOp_eq, eC_eq, eVar_s, eVar_0, bind_ok, ws_sb, wp_bind]
  refine wp_draw h1 (by omega) (by omega) (by omega) fun a p2 a0 a1 h2 => ?_
  simp only [oAdd_int, wp_ok, wp_bind, ws_sb]
  refine wp_draw h2 (by omega) (by omega) (by omega) fun b p3 b0 b1 h3 => ?_
  simp only [oAdd_int, wp_ok, wp_bind, ws_sb]
  rw [l_low_ok _ (by omega) (pow_mono (n := 30) (by omega) (by omega)) (pow_mono (n := 30) (by omega) (by omega))]
  refine ⟨Pn ns p3 T, [], _, by simp, kp_pen, frz_pl 40 _ pl_fq, ?_⟩
  exact q _ _ (pos_frac (by omega) (by omega)) (Bq_divInt (by omega) (by omega) (by omega)) h3
theorem l_mul_ok (hp : Bq n u) (hq : Bq m v) (h : n + m ≤ 13000) (S : Sto) : F_l_mul [fq u, fq v] S = .ok (fq (u * v)) S := by
  obtain ⟨h1, h2, h3, h4, h5, _⟩ := sum_ok hp hq
  have g1 : mulOk u.num v.num = true := mulOk_of hp.1 hq.1 (by omega)
  have g2 : mulOk (u.den : Int) (v.den : Int) = true := mulOk_of (by rw [den_abs]; exact hp.2) (by rw [den_abs]; exact hq.2) (by omega)
  have e := l_low_ok S (dd_ne (p := u) (q := v)) (pow_mono h5 h) (pow_mono h4 h)
  rw [mul_eq] at e
  unfold F_l_mul b_l_mul
  refine run_eq0 ?_ pl_fq
  simp only [fq] at e ⊢
  simp [c_l_mul_0, oMul_int, g1, g2, e]
/-- times 1 over a whole number, as a pair that need not be in lowest terms -/
theorem l_mulR {c d : Int} (hp : Bq n u) (hc : c.natAbs < 2 ^ m) (hd : d.natAbs < 2 ^ m) (h0 : d ≠ 0) (h : n + m ≤ 13000) (S : Sto) : F_l_mul [fq u, .tup [.int c, .int d]] S = .ok (fq (u * ((c : Rat) / (d : Rat)))) S := by
  have g1 : mulOk u.num c = true := mulOk_of hp.1 hc (by omega)
  have g2 : mulOk (u.den : Int) d = true := mulOk_of (by rw [den_abs]; exact hp.2) hd (by omega)
  have h1 : (u.num * c).natAbs < 2 ^ (n + m) := mul_lt hp.1 hc
  have h2 : ((u.den : Int) * d).natAbs < 2 ^ (n + m) := mul_lt (by rw [den_abs]; exact hp.2) hd
  have e := l_low_ok S (Int.mul_ne_zero (den_ne u) h0) (pow_mono h1 h) (pow_mono h2 h)
  rw [← Rat.divInt_mul_divInt, Rat.divInt_ofNat, Rat.mkRat_self, divInt_div] at e
  unfold F_l_mul b_l_mul
  refine run_eq0 ?_ pl_fq
  simp only [fq] at e ⊢
  simp [c_l_mul_0, oMul_int, g1, g2, e]
end
section
variable {B : Nat} {s t : St}
theorem sd0 (s : St) (S : Sto) : oIx (sd s) (.int 0) S = .ok (.int s.m) S := rfl
theorem sd1 (s : St) (S : Sto) : oIx (sd s) (.int 1) S = .ok (fq s.f) S := rfl
theorem sd2 (s : St) (S : Sto) : oIx (sd s) (.int 2) S = .ok (fq s.l) S := rfl
theorem l_goes_on_ok (hs : Sok B s) (ht : Sok B t) (S : Sto) : F_l_goes_on [sd s, sd t] S = .ok (.bl (decide (s.l = t.f ∧ rise s = rise t))) S := by
  have bb := hs.bb
  have a1 := fun S => l_sub_ok hs.bl hs.bf (by omega) S
  have a2 := fun S => l_sub_ok ht.bl ht.bf (by omega) S
  have b1 := fun S => l_mulR (Bq_sub hs.bl hs.bf) (c := 1) (d := s.m) (m := 18) (by decide) (by have := hs.m1; have := hs.m2; omega) (by have := hs.m1; omega) (by omega) S
  have b2 := fun S => l_mulR (Bq_sub ht.bl ht.bf) (c := 1) (d := t.m) (m := 18) (by decide) (by have := ht.m1; have := ht.m2; omega) (by have := ht.m1; omega) (by omega) S
  have c1 : ∀ s : St, (s.l - s.f) * (((1 : Int) : Rat) / (s.m : Rat)) = rise s := fun s => by unfold rise; grind
  simp only [c1] at b1 b2
  unfold F_l_goes_on b_l_goes_on
  refine run_eq0 ?_ (by simp [Pl])
  refine (seq_nx (ρ' := [some (sd s), some (sd t), some (fq (rise s))]) (S' := S) (by simp [c_l_goes_on_0, sd0, sd1, sd2, a1, b1]) _).trans ?_
  by_cases hl : s.l = t.f
  · by_cases hr : rise s = rise t
    · simp [c_l_goes_on_1, sd0, sd1, sd2, a2, b2, hl, hr]
    · simp [c_l_goes_on_1, sd0, sd1, sd2, a2, b2, hl, hr]
  · simp [c_l_goes_on_1, sd1, sd2, hl]
end
def Adj (ss : List St) : Prop := ∀ (i : Nat) (h : i + 1 < ss.length), ¬ (ss[i].l = ss[i + 1].f ∧ rise ss[i] = rise ss[i + 1])
theorem Adj.nil : Adj [] := fun i h => by simp at h
theorem Adj.snoc {ss : List St} {t : St} (h : Adj ss) (hl : ∀ h : ss ≠ [], ¬ ((ss.getLast h).l = t.f ∧ rise (ss.getLast h) = rise t)) : Adj (ss ++ [t]) := by
  intro i hi
  rw [List.length_append, List.length_singleton] at hi
  by_cases h1 : i + 1 < ss.length
  · have := h i h1
    rw [List.getElem_append_left (by omega), List.getElem_append_left h1]
    exact this
  · have hi2 : i + 1 = ss.length := by omega
    have hne : ss ≠ [] := fun e => by rw [e] at hi2; simp at hi2
    have := hl hne
    rw [List.getElem_append_left (by omega), List.getElem_append_right (by omega)]
    rw [List.getLast_eq_getElem] at this
    have e1 : ss.length - 1 = i := by omega
    simp only [e1] at this
    simp only [hi2, Nat.sub_self, List.getElem_cons_zero]
    exact this
theorem Adj.drop {ss : List St} (h : Adj ss) : Adj ss.dropLast := by
  intro i hi
  rw [List.length_dropLast] at hi
  rw [List.getElem_dropLast, List.getElem_dropLast]
  exact h i (by omega)
/-- stretches of at most M steps, no two of which are one line -/
structure Gs (M : Int) (ss : List St) : Prop where
  all : ∀ s ∈ ss, Sok 40 s ∧ s.m ≤ M
  adj : Adj ss
theorem Gs.nil {M : Int} : Gs M [] := ⟨fun s h => by simp at h, .nil⟩
theorem Gs.snoc {M : Int} {ss : List St} {t : St} (h : Gs M ss) (ht : Sok 40 t ∧ t.m ≤ M) (hl : ∀ h : ss ≠ [], ¬ ((ss.getLast h).l = t.f ∧ rise (ss.getLast h) = rise t)) : Gs M (ss ++ [t]) := ⟨fun s hs => by
  rcases List.mem_append.mp hs with hs | hs
  · exact h.all s hs
  · rw [List.mem_singleton.mp hs]; exact ht, h.adj.snoc hl⟩
theorem Gs.drop {M : Int} {ss : List St} (h : Gs M ss) : Gs M ss.dropLast := ⟨fun s hs => h.all s (List.dropLast_subset _ hs), h.adj.drop⟩
end Fx
set_option Elab.async false
set_option linter.all false
set_option maxRecDepth 100000
set_option exponentiation.threshold 20000
namespace DV
open PySem L2
theorem pyOf_ob {n : Nat} {xs : List D} {S : Sto} (h : S[n]? = some (.lst xs)) : pyOf 40 S (.ob n) = pyOf 40 S (.lst xs) := by
  simp only [pyOf, h]
theorem oEqG_obL {n : Nat} {xs : List D} {S : Sto} {b : D} {g : Bool} (h : S[n]? = some (.lst xs)) : oEqG g (.ob n) b S = oEqG g (.lst xs) b S := by
  simp only [oEqG, pyOf_ob h]
theorem oEq_obL {n : Nat} {xs : List D} {S : Sto} {b : D} (h : S[n]? = some (.lst xs)) : oEq (.ob n) b S = oEq (.lst xs) b S := oEqG_obL h
theorem oNe_obL {n : Nat} {xs : List D} {S : Sto} {b : D} (h : S[n]? = some (.lst xs)) : oNe (.ob n) b S = oNe (.lst xs) b S := oEqG_obL h
theorem gd_nil {α : Type} (f : α → D) (xs : List α) : gd (D.lst (xs.map f) = D.lst []) = xs.isEmpty := by
  cases xs with
  | nil => exact gd_of rfl
  | cons x xs =>
    cases z : gd (D.lst ((x :: xs).map f) = D.lst []) with
    | true => have := of_gd z; simp at this
    | false => rfl
theorem oEq_nilL {α : Type} {n : Nat} {f : α → D} {xs : List α} {S : Sto} (h : S[n]? = some (.lst (xs.map f))) (hf : ∀ x, Cn 38 (f x)) : oEq (.ob n) (.lst []) S = .ok (.bl xs.isEmpty) S := by
  rw [oEq_obL h, oEq_cn (by simp only [Cn]; exact cns_iff.mpr fun d hd => by obtain ⟨x, _, rfl⟩ := List.mem_map.mp hd; exact hf x) (by simp [Cn, Cns]), gd_nil]
theorem oNe_nilL {α : Type} {n : Nat} {f : α → D} {xs : List α} {S : Sto} (h : S[n]? = some (.lst (xs.map f))) (hf : ∀ x, Cn 38 (f x)) : oNe (.ob n) (.lst []) S = .ok (.bl (!xs.isEmpty)) S := by
  rw [oNe_obL h, oNe_cn (by simp only [Cn]; exact cns_iff.mpr fun d hd => by obtain ⟨x, _, rfl⟩ := List.mem_map.mp hd; exact hf x) (by simp [Cn, Cns]), gd_nil]
theorem oIx_obL {n : Nat} {xs : List D} {S : Sto} {i : Int} (h : S[n]? = some (.lst xs)) : oIx (.ob n) (.int i) S = oIx (.lst xs) (.int i) S := by
  simp only [oIx_ob, oIx_lst, lstOf_ob h]
theorem eApp_at {a b : EF} {ρ : Lc} {S S2 : Sto} {n : Nat} {xs ys : List D} {d : D} (h1 : a ρ S = .ok (.ob n) S) (h2 : S[n]? = some (.lst ys)) (h3 : b ρ S = .ok d S2) (h4 : S2[n]? = some (.lst xs)) (h5 : xs.length ≤ 1000000) : eApp a b ρ S = .ok .non (S2.set n (.lst (xs ++ [d]))) := by
  have g : szOk xs.length = true := gd_of h5
  simp only [eApp_eq, h1, bind_ok, h2, h3, h4, g, if_true]
theorem ePop_at {a : EF} {ρ : Lc} {S : Sto} {n : Nat} {xs : List D} (h1 : a ρ S = .ok (.ob n) S) (h2 : S[n]? = some (.lst xs)) (h3 : xs ≠ []) : ∃ d, ePop a ρ S = .ok d (S.set n (.lst xs.dropLast)) := by
  have hl : 0 < xs.length := List.length_pos_iff.mpr h3
  refine ⟨xs[xs.length - 1], ?_⟩
  simp only [ePop, h1, bind_ok, h2, List.getElem?_eq_getElem (show xs.length - 1 < xs.length by omega)]
theorem cTuple_ob {n : Nat} {xs : List D} {S : Sto} (h : S[n]? = some (.lst xs)) : cTuple [.ob n] S = .ok (.tup xs) S := by
  simp only [cTuple, lstOf_ob h]
theorem cTuple_lst {xs : List D} {S : Sto} : cTuple [.lst xs] S = .ok (.tup xs) S := rfl
end DV
namespace Fx
open PySem L2 DV
section
variable {ns : List Int} {p : Int × Int} {T E' : Sto} {k n m : Nat} {Q : D → Sto → Prop} {E : Str → Sto → Prop} {R : Rat} {N : Pq} {ss : List St} {x1 x4 x5 x6 x7 : Option D}
theorem pn_at : (Pn ns p (T ++ E'))[T.length + 1]? = E'[0]? := by
  show (penO ns p :: (T ++ E'))[T.length + 1]? = _
  rw [List.getElem?_cons_succ, List.getElem?_append_right (Nat.le_refl _), Nat.sub_self]
theorem pn_set {o o' : O} {E' : Sto} : (Pn ns p (T ++ o :: E')).set (T.length + 1) o' = Pn ns p (T ++ o' :: E') := by
  show (penO ns p :: (T ++ o :: E')).set (T.length + 1) o' = penO ns p :: (T ++ o' :: E')
  rw [List.set_cons_succ]
  simp
theorem pn_app : Pn ns p T ++ E' = Pn ns p (T ++ E') := rfl
theorem pn_len : (Pn ns p T).length = T.length + 1 := rfl
/-- a list of stretches under way -/
abbrev Ps (ns : List Int) (p : Int × Int) (T : Sto) (ss : List St) : Sto := Pn ns p (T ++ [.lst (ss.map sd)])
theorem ps_at : (Ps ns p T ss)[T.length + 1]? = some (.lst (ss.map sd)) := pn_at
theorem ps_eqnil : oEq (.ob (T.length + 1)) (.lst []) (Ps ns p T ss) = .ok (.bl ss.isEmpty) (Ps ns p T ss) := oEq_nilL ps_at fun _ => cn_sd
theorem ps_nenil : oNe (.ob (T.length + 1)) (.lst []) (Ps ns p T ss) = .ok (.bl (!ss.isEmpty)) (Ps ns p T ss) := oNe_nilL ps_at fun _ => cn_sd
theorem ps_last (he : ss ≠ []) : oIx (.ob (T.length + 1)) (.int (-1)) (Ps ns p T ss) = .ok (sd (ss.getLast he)) (Ps ns p T ss) := by
  rw [oIx_obL ps_at, oIx_lst, at_last he]
theorem ps_push {s : St} : (Ps ns p T ss).set (T.length + 1) (.lst (ss.map sd ++ [sd s])) = Ps ns p T (ss ++ [s]) := by
  rw [pn_set]
  show _ = Pn ns p (T ++ [.lst ((ss ++ [s]).map sd)])
  rw [List.map_append]; rfl
/-- the last one is appended unless it goes on -/
theorem push_ok {M : Int} {a b : EF} {ρ : Lc} {s : St} (g : Gs M ss) (hs : Sok 40 s ∧ s.m ≤ M) (hl : ss.length ≤ 1000) (ha : ∀ S, a ρ S = .ok (.ob (T.length + 1)) S) (hb : ∀ S, b ρ S = .ok (sd s) S) :
    ∃ ss', Gs M ss' ∧ ss'.length ≤ ss.length + 1 ∧ sIf (bOr (tTru (eOp oEq a (eLst aNil))) (bNot (tTru (eCall F_l_goes_on (aCons (eOp oIx a (eNeg (eC (.int 1)))) (aCons b aNil)))))) (sExpr (eApp a b)) sNil ρ (Ps ns p T ss) = .nx ρ (Ps ns p T ss') := by
  have z0 : szOk 0 = true := gd_of (by decide)
  have ap : eApp a b ρ (Ps ns p T ss) = .ok .non (Ps ns p T (ss ++ [s])) := by
    rw [eApp_at (ha _) ps_at (hb _) ps_at (by simp; omega), ps_push]
  by_cases he : ss = []
  · refine ⟨ss ++ [s], g.snoc hs (fun h => absurd he h), by simp, ?_⟩
    have ie : ss.isEmpty = true := by simpa using he
    simp only [sIf_eq, bOr_eq, tTru_eq, eOp_eq, ha, bind_ok, eLst_eq, aNil_eq, List.length_nil, z0, if_true, ps_eqnil, ie, truD_bl, sb_ok, sExpr_eq, ap]
  · have ie : ss.isEmpty = false := by simpa using he
    have go := fun S => l_goes_on_ok (g.all _ (List.getLast_mem he)).1 hs.1 S
    by_cases hg : (ss.getLast he).l = s.f ∧ rise (ss.getLast he) = rise s
    · refine ⟨ss, g, by omega, ?_⟩
      simp only [hg, and_self, decide_true] at go
      simp only [sIf_eq, bOr_eq, tTru_eq, eOp_eq, ha, hb, bind_ok, eLst_eq, aNil_eq, List.length_nil, z0, if_true, ps_eqnil, ie, truD_bl, sb_ok, bNot_eq, eCall_eq, aCons_eq, eNeg_eq, eC_eq, ps_last he, go, Bool.not_true, Bool.false_eq_true, if_false, sNil_eq]
    · refine ⟨ss ++ [s], g.snoc hs (fun _ => hg), by simp, ?_⟩
      simp only [hg, decide_false] at go
      simp only [sIf_eq, bOr_eq, tTru_eq, eOp_eq, ha, hb, bind_ok, eLst_eq, aNil_eq, List.length_nil, z0, if_true, ps_eqnil, ie, truD_bl, sb_ok, bNot_eq, eCall_eq, aCons_eq, eNeg_eq, eC_eq, ps_last he, go, Bool.not_false, Bool.false_eq_true, if_false, sExpr_eq, ap]
abbrev ρt (T : Sto) (R : Rat) (x1 x4 x5 x6 x7 : Option D) : Lc := [some (.ob 0), x1, some (fq R), some (.ob (T.length + 1)), x4, x5, x6, x7]
theorem tempo_turn (h : Pk p k) (hk : k + 12 ≤ 1000000000000) (g : Gs 9000 ss) (hl : ss.length ≤ 1000) (R0 : 0 < R) (bR : Bq 40 R)
    (hN : ∀ y5 y6 y7 ss' p', Gs 9000 ss' → ss'.length ≤ ss.length + 1 → Pk p' (k + 12) → N.nx (ρt T R x1 x4 y5 y6 y7) (Ps ns p' T ss')) :
    Ws ((sSeq c_l_tempo_2_0 (sSeq c_l_tempo_2_1 (sSeq c_l_tempo_2_2 (sSeq c_l_tempo_2_3 c_l_tempo_2_4)))) (ρt T R x1 x4 x5 x6 x7) (Ps ns p T ss)) N := by
  have z0 : szOk 0 = true := gd_of (by decide)
  have z3 : szOk (0 + 1 + 1 + 1) = true := gd_of (by decide)
  refine ws_seq ?_
  simp only [c_l_tempo_2_0, sAsg_nm, eCall_eq, aCons_eq, aNil_eq, eVar_0, bind_ok, ws_sb]
  refine wp_above h (by omega) fun f p1 f0 bf h1 => ?_
  simp only [ws_nx, List.set]
  refine ws_seq ?_
  -- the first length may be the last one of the elder one
  have part : ∀ (f : Rat) p2, 0 < f → Bq 40 f → Pk p2 (k + 4) → Ws ((sSeq c_l_tempo_2_2 (sSeq c_l_tempo_2_3 c_l_tempo_2_4)) (ρt T R x1 x4 (some (fq f)) x6 x7) (Ps ns p2 T ss)) N := by
    intro f p2 f0 bf h2
    refine ws_seq ?_
    simp only [c_l_tempo_2_2, sAsg_nm, eOp_eq, eLst_eq, aCons_eq, aNil_eq, eCall_eq, eVar_s, eVar_0, bind_ok, wp_bind, ws_sb]
    refine wp_above h2 (by omega) fun u p3 u0 bu h3 => ?_
    simp only [wp_ok, wp_bind, ws_sb, List.length_cons, List.length_nil, z3, if_true, eC_eq, bind_ok]
    refine wp_draw h3 (by omega) (by decide) (by decide) fun d p4 d0 d1 h4 => ?_
    obtain ⟨v, hv, ev⟩ := atI_mem (l := [fq f, fq u, fq R]) d0 (by simpa using d1)
    have hv2 : ∃ w : Rat, v = fq w ∧ 0 < w ∧ Bq 40 w := by
      simp only [List.mem_cons, List.not_mem_nil, or_false] at hv
      rcases hv with rfl | rfl | rfl
      · exact ⟨_, rfl, f0, bf⟩
      · exact ⟨_, rfl, u0, bu.mono (by decide)⟩
      · exact ⟨_, rfl, R0, bR⟩
    obtain ⟨w, rfl, w0, bw⟩ := hv2
    simp only [oIx_lst, ev, wp_ok, wp_bind, ws_sb, ws_nx, List.set]
    refine ws_seq ?_
    simp only [c_l_tempo_2_3, sAsg_nm, eTup_eq, aCons_eq, aNil_eq, eOp_eq, eC_eq, eCall_eq, eLst_eq, eVar_s, eVar_0, bind_ok, List.length_cons, List.length_nil, z3, if_true, wp_bind, ws_sb]
    refine wp_draw h4 (by omega) (by decide) (by decide) fun d p5 d0 d1 h5 => ?_
    obtain ⟨v, hv, ev⟩ := atI_mem (l := [D.int 12, .int 12, .int 9000]) d0 (by simpa using d1)
    have hv2 : ∃ w : Int, v = .int w ∧ 1 ≤ w ∧ w ≤ 9000 := by
      simp only [List.mem_cons, List.not_mem_nil, or_false] at hv
      rcases hv with rfl | rfl | rfl <;> exact ⟨_, rfl, by decide, by decide⟩
    obtain ⟨y, rfl, y1, y2⟩ := hv2
    simp only [oIx_lst, ev, wp_ok, wp_bind, ws_sb]
    refine wp_draw h5 (by omega) (by omega) (by omega) fun b p6 b0 b1 h6 => ?_
    simp only [oAdd_int, wp_ok, wp_bind, ws_sb, bind_ok, List.length_cons, List.length_nil, z3, if_true, ws_nx, List.set]
    have ok : Sok 40 ⟨1 + b, f, w⟩ ∧ (⟨1 + b, f, w⟩ : St).m ≤ 9000 := ⟨⟨by decide, by show 1 ≤ 1 + b; omega, by show 1 + b ≤ 200000; omega, f0, w0, bf, bw⟩, by show 1 + b ≤ 9000; omega⟩
    obtain ⟨ss', g', l', e⟩ := push_ok (ns := ns) (p := p6) (T := T) (a := eVar 3) (b := eVar 7) (ρ := ρt T R x1 x4 (some (fq f)) (some (fq w)) (some (sd ⟨1 + b, f, w⟩))) g ok hl (fun S => rfl) (fun S => rfl)
    have e' : c_l_tempo_2_4 (ρt T R x1 x4 (some (fq f)) (some (fq w)) (some (sd ⟨1 + b, f, w⟩))) (Ps ns p6 T ss) = _ := e
    show Ws (c_l_tempo_2_4 (ρt T R x1 x4 (some (fq f)) (some (fq w)) (some (sd ⟨1 + b, f, w⟩))) (Ps ns p6 T ss)) N
    rw [e']
    exact hN _ _ _ _ _ g' l' (h6.mono (by omega))
  by_cases he : ss = []
  · have ie : ss.isEmpty = true := by simpa using he
    have : c_l_tempo_2_1 (ρt T R x1 x4 (some (fq f)) x6 x7) (Ps ns p1 T ss) = .nx (ρt T R x1 x4 (some (fq f)) x6 x7) (Ps ns p1 T ss) := by
      simp only [c_l_tempo_2_1, sIf_eq, bAnd_eq, tTru_eq, eOp_eq, eVar_s, eVar_0, bind_ok, eLst_eq, aNil_eq, List.length_nil, z0, if_true, ps_nenil, ie, truD_bl, Bool.not_true, Bool.false_eq_true, if_false, sb_ok, sNil_eq]
    rw [this]
    exact part f p1 f0 (bf.mono (by decide)) (h1.mono (by omega))
  · have ie : ss.isEmpty = false := by simpa using he
    simp only [c_l_tempo_2_1, sIf_eq, bAnd_eq, tTru_eq, eOp_eq, eVar_s, eVar_0, bind_ok, eLst_eq, aNil_eq, List.length_nil, z0, if_true, ps_nenil, ie, truD_bl, Bool.not_false, eCall_eq, aCons_eq, eC_eq, ws_sb, wp_bind]
    refine wp_draw h1 (by omega) (by decide) (by decide) fun d p2 d0 d1 h2 => ?_
    have s1 := (g.all _ (List.getLast_mem he)).1
    by_cases hd : d = 0
    · simp only [oEq_int2, hd, BEq.rfl, wp_ok, wp_bind, ws_sb, truD_bl, if_true, sAsg_nm, eOp_eq, eVar_s, eVar_0, bind_ok, eNeg_eq, eC_eq, ps_last he, sd2, sb_ok, ws_nx, List.set]
      exact part _ p2 s1.l0 s1.bl (h2.mono (by omega))
    · have hd' : (d == 0) = false := by simpa using hd
      simp only [oEq_int2, hd', wp_ok, wp_bind, ws_sb, truD_bl, Bool.false_eq_true, if_false, sNil_eq, ws_nx]
      exact part f p2 f0 (bf.mono (by decide)) (h2.mono (by omega))
/-- the last ones are taken away while they are as the rest is -/
theorem pops_ok {M : Int} {a c : EF} {ρ : Lc} (ha : ∀ S, a ρ S = .ok (.ob (T.length + 1)) S) (hc : ∀ S, c ρ S = .ok (fq R) S) : ∀ (fuel : Nat) (ss : List St), Gs M ss → ss.length ≤ fuel →
    ∃ ss', Gs M ss' ∧ ss'.length ≤ ss.length ∧ (∀ h : ss' ≠ [], ¬ ((ss'.getLast h).f = R ∧ (ss'.getLast h).l = R)) ∧
      whGo (bAnd (tTru (eOp oNe a (eLst aNil))) (tTru (eOp oEq (eSl (eOp oIx a (eNeg (eC (.int 1)))) (pAt (eC (.int 1))) pNo) (eTup (aCons c (aCons c aNil)))))) (sExpr (ePop a)) fuel ρ (Ps ns p T ss) = .nx ρ (Ps ns p T ss')
  | fuel, ss, g, hl => by
    have z0 : szOk 0 = true := gd_of (by decide)
    have z2 : szOk (0 + 1 + 1) = true := gd_of (by decide)
    by_cases he : ss = []
    · subst he
      refine ⟨[], g, Nat.le_refl _, fun h => absurd rfl h, ?_⟩
      unfold whGo
      have ie : ([] : List St).isEmpty = true := rfl
      simp only [bAnd_eq, tTru_eq, eOp_eq, ha, bind_ok, eLst_eq, aNil_eq, List.length_nil, z0, if_true, ps_nenil, ie, truD_bl, Bool.not_true, Bool.false_eq_true, if_false, sb_ok]
    · have ie : ss.isEmpty = false := by simpa using he
      have sl : ∀ S, oSl (sd (ss.getLast he)) (some 1) none S = .ok (.tup [fq (ss.getLast he).f, fq (ss.getLast he).l]) S := fun S => rfl
      have eq : ∀ S, oEq (.tup [fq (ss.getLast he).f, fq (ss.getLast he).l]) (.tup [fq R, fq R]) S = .ok (.bl (decide ((ss.getLast he).f = R ∧ (ss.getLast he).l = R))) S := fun S => by
        have cc : ∀ a b : Rat, Cn 40 (.tup [fq a, fq b]) := fun a b => by simp only [Cn, Cns, and_true]; exact ⟨cn_fq, cn_fq⟩
        have := oNe_pair (ss.getLast he).f (ss.getLast he).l R R S
        rw [oNe_cn (cc _ _) (cc _ _)] at this
        rw [oEq_cn (cc _ _) (cc _ _)]
        simp only [Res.ok.injEq, D.bl.injEq, and_true, Bool.not_inj_iff] at this
        rw [this]
      by_cases hR : (ss.getLast he).f = R ∧ (ss.getLast he).l = R
      · simp only [hR, and_self, decide_true] at eq
        match fuel, hl with
        | 0, hl => exact absurd (List.length_eq_zero_iff.mp (Nat.le_zero.mp hl)) he
        | fuel + 1, hl =>
          obtain ⟨d, e1⟩ := ePop_at (S := Ps ns p T ss) (ha _) ps_at (by simpa using he)
          rw [pn_set] at e1
          have e2 : (List.map sd ss).dropLast = ss.dropLast.map sd := by rw [List.dropLast_eq_take, List.dropLast_eq_take, List.map_take, List.length_map]
          rw [e2] at e1
          obtain ⟨ss', g', l', n', e3⟩ := pops_ok (M := M) ha hc fuel ss.dropLast g.drop (by simp; omega)
          refine ⟨ss', g', by simp at l'; omega, n', ?_⟩
          unfold whGo
          simp only [bAnd_eq, tTru_eq, eOp_eq, ha, hc, bind_ok, eLst_eq, aNil_eq, List.length_nil, List.length_cons, z0, z2, if_true, ps_nenil, ie, truD_bl, Bool.not_false, eSl_eq, eNeg_eq, eC_eq, ps_last he, pAt_eq, pNo_eq, eTup_eq, aCons_eq, hR, eq, sl, sb_ok, sExpr_eq, e1]
          exact e3
      · refine ⟨ss, g, Nat.le_refl _, fun _ => hR, ?_⟩
        simp only [hR, decide_false] at eq
        unfold whGo
        simp only [bAnd_eq, tTru_eq, eOp_eq, ha, hc, bind_ok, eLst_eq, aNil_eq, List.length_nil, List.length_cons, z0, z2, if_true, ps_nenil, ie, truD_bl, Bool.not_false, eSl_eq, eNeg_eq, eC_eq, ps_last he, pAt_eq, pNo_eq, eTup_eq, aCons_eq, eq, sl, Bool.false_eq_true, if_false, sb_ok]
theorem Gs.sum {M : Int} (g : Gs M ss) (hM : 0 ≤ M) : (ss.map St.m).sum ≤ ss.length * M := by
  have : ∀ l : List St, (∀ s ∈ l, s.m ≤ M) → (l.map St.m).sum ≤ l.length * M := fun l => by
    induction l with
    | nil => intro _; simp
    | cons t l ih =>
      intro h
      have h1 := h t (by simp)
      have h2 := ih (fun s hs => h s (by simp [hs]))
      rw [List.map_cons, List.sum_cons, List.length_cons]
      have : ((l.length + 1 : Nat) : Int) * M = l.length * M + M := by rw [Int.natCast_succ, Int.add_mul, Int.one_mul]
      omega
  exact this ss fun s hs => (g.all s hs).2
theorem Gs.tok {M : Int} (g : Gs M ss) (h24 : ss.length ≤ 24) (hs : (ss.map St.m).sum ≤ 200000) (R0 : 0 < R) (bR : Bq 40 R) (hl : ∀ h : ss ≠ [], ¬ ((ss.getLast h).f = R ∧ (ss.getLast h).l = R)) : Tok 40 ss R :=
  ⟨h24, fun s h => (g.all s h).1, R0, bR, hs, g.adj, hl⟩
/-- a tempo as it is drawn -/
structure Drawn (b : Nat) (M : Int) (n : Nat) (ss : List St) (R : Rat) : Prop where
  gs : Gs M ss
  len : ss.length ≤ n
  r0 : 0 < R
  br : Bq b R
  last : ∀ h : ss ≠ [], ¬ ((ss.getLast h).f = R ∧ (ss.getLast h).l = R)
theorem Drawn.tok {b : Nat} {M : Int} {n : Nat} (d : Drawn b M n ss R) (hb : b ≤ 40) (hM : 0 ≤ M) (hn : n * M ≤ 200000) (h24 : n ≤ 24) : Tok 40 ss R := by
  have l := d.len
  have s := d.gs.sum hM
  have : (ss.length : Int) * M ≤ n * M := Int.mul_le_mul_of_nonneg_right (by omega) hM
  exact d.gs.tok (by omega) (by omega) d.r0 (d.br.mono hb) d.last
theorem wp_tempo (h : Pk p k) (hm : m ≤ 1000) (hk : k + 20 + 12 * m ≤ 1000000000000) (q : ∀ ss R p', Drawn 30 9000 m ss R → Pk p' (k + 20 + 12 * m) → Q (td ss R) (Pn ns p' T)) : Wp (F_l_tempo [.ob 0, .int m] (Pn ns p T)) Q E := by
  have z0 : szOk 0 = true := gd_of (by decide)
  have z2 : szOk (0 + 1 + 1) = true := gd_of (by decide)
  refine wp_run ?_
  show Ws (b_l_tempo [some (.ob 0), some (.int m), none, none, none, none, none, none] (Pn ns p T)) _
  unfold b_l_tempo
  refine ws_seq ?_
  simp only [c_l_tempo_0, sAsg_nm, eCall_eq, aCons_eq, aNil_eq, eVar_0, bind_ok, ws_sb]
  refine wp_above h (by omega) fun R p1 R0 bR h1 => ?_
  simp only [ws_nx, List.set]
  refine ws_seq ?_
  simp only [c_l_tempo_1, sAsg_nm, eLstS_eq, aNil_eq, bind_ok, List.length_nil, z0, if_true, sb_ok, ws_nx, List.set, pn_app, pn_len]
  refine ws_seq ?_
  -- how many
  have g62 : ∀ d : Int, 0 ≤ d → d < m + 1 → gd (-(2 ^ 62) ≤ d ∧ d < 2 ^ 62) = true := fun d a b => gd_of (by omega)
  simp only [c_l_tempo_2, sFor, iRng_eq, aCons_eq, aNil_eq, eCall_eq, eVar_s, eVar_0, bind_ok, eOp_eq, eC_eq, oAdd_int, ws_sb, wp_bind]
  refine wp_draw h1 (by omega) (by omega) (by omega) fun d p2 d0 d1 h2 => ?_
  simp only [wp_ok, wp_bind, ws_sb, g62 d d0 d1, if_true, Itd.size]
  obtain ⟨j, rfl⟩ : ∃ j : Nat, d = j := ⟨d.toNat, (Int.toNat_of_nonneg d0).symm⟩
  refine ws_forGo (n := j) (xs := fun i => .int (0 + (i : Nat))) (fun i ρ S => ∃ x4 x5 x6 x7 ss p', ρ = ρt T R (some (.int m)) x4 x5 x6 x7 ∧ S = Ps ns p' T ss ∧ Gs 9000 ss ∧ ss.length ≤ i ∧ Pk p' (k + 4 + 12 * i)) ?_ ?_ ?_ _ _ _ _ (by simp) (by omega) ⟨none, none, none, none, [], p2, rfl, rfl, .nil, by simp, h2.mono (by omega)⟩
  · intro i ρ S hi _
    rw [Int.toNat_natCast]
    exact isRng 0 j S i hi
  · rintro i ρ S hi ⟨x4, x5, x6, x7, ss, p', rfl, rfl, g, hl, hp⟩
    refine ⟨_, put_nm _ _ _ _, ?_⟩
    simp only [List.set]
    refine tempo_turn hp (by omega) g (by omega) R0 (bR.mono (by decide)) fun y5 y6 y7 ss' p'' g' l' hp' => ?_
    exact ⟨_, _, _, _, ss', p'', rfl, rfl, g', by omega, hp'.mono (by omega)⟩
  · rintro ρ S ⟨x4, x5, x6, x7, ss, p', rfl, rfl, g, hl, hp⟩
    dsimp only
    refine ws_seq ?_
    obtain ⟨ss', g', l', n', e⟩ := pops_ok (M := 9000) (R := R) (ns := ns) (p := p') (T := T) (a := eVar 3) (c := eVar 2) (ρ := ρt T R (some (.int m)) x4 x5 x6 x7) (fun S => rfl) (fun S => rfl) 1000 ss g (by omega)
    have e' : c_l_tempo_3 (ρt T R (some (.int m)) x4 x5 x6 x7) (Ps ns p' T ss) = _ := e
    rw [e']
    simp only [ws_nx, c_l_tempo_4, sRet_eq, eTup_eq, aCons_eq, aNil_eq, eB_eq, eVar_s, eVar_0, bind_ok, cTuple_ob ps_at, List.length_cons, List.length_nil, z2, if_true, sb_ok, ws_rt]
    exact ⟨Pn ns p' T, [.lst (ss'.map sd)], td ss' R, rfl, kp_pen, frz_pl 40 _ pl_td, q _ _ _ ⟨g', by omega, R0, bR, n'⟩ (hp.mono (by omega))⟩
end
end Fx
set_option Elab.async false
set_option linter.all false
set_option maxRecDepth 100000
namespace DV
open PySem L2
def Sok' (s : Str) : Prop := ∀ c ∈ s.cps.toList, c < 0x110000
theorem sok_iff {s : Str} : PyData.strOk s = true ↔ Sok' s := by
  unfold PyData.strOk Sok'
  rw [Array.all_eq_true_iff_forall_mem]
  simp [Array.mem_toList_iff]
theorem sok_of (s : String) : Sok' (Str.ofString s) := fun c hc => by
  have : (Str.ofString s).cps.toList = s.toList.map Char.toNat := by
    show (cpsOfBytes 0 0 s.toByteArray.data.toList).toArray.toList = _
    rw [List.toList_toArray, cpsOfBytes_string]
  rw [this] at hc
  obtain ⟨d, _, rfl⟩ := List.mem_map.mp hc
  have := d.valid
  have h2 : d.val.toNat < 0x110000 := by
    rcases this with h | h
    · have : d.val.toNat < 0xd800 := h
      omega
    · exact h.2
  exact h2
theorem sok_app {a b : Str} (ha : Sok' a) (hb : Sok' b) : Sok' (a ++ b) := fun c hc => by
  have : (a ++ b).cps.toList = a.cps.toList ++ b.cps.toList := by
    show (a.cps ++ b.cps).toList = _
    simp
  rw [this] at hc
  rcases List.mem_append.mp hc with h | h
  · exact ha c h
  · exact hb c h
theorem sok_join {sep : Str} (hs : Sok' sep) : ∀ ts : List Str, (∀ t ∈ ts, Sok' t) → Sok' (Str.join sep ts)
  | [], _ => by rw [Str.join.eq_1]; intro c hc; simp [Str.empty] at hc
  | [t], h => by rw [Str.join.eq_2]; exact h t (by simp)
  | t :: u :: r, h => by
    rw [Str.join.eq_3 _ _ _ (fun e => by simp at e)]
    exact sok_app (sok_app (h t (by simp)) hs) (sok_join hs (u :: r) fun x hx => h x (by simp [hx]))
theorem hex_ok (w c : Nat) : ∀ d ∈ (List.replicate w 48 ++ (Nat.toDigits 16 c).map Char.toNat), d < 0x110000 := fun d hd => by
  rcases List.mem_append.mp hd with h | h
  · rw [(List.mem_replicate.mp h).2]; decide
  · obtain ⟨x, _, rfl⟩ := List.mem_map.mp h
    rcases x.valid with h | h
    · have : x.val.toNat < 0xd800 := h
      show x.val.toNat < _
      omega
    · exact h.2
theorem two_ok {a b : Nat} (ha : a < 0x110000) (hb : b < 0x110000) : ∀ d ∈ [a, b], d < 0x110000 := fun d hd => by
  simp at hd; rcases hd with rfl | rfl <;> assumption
theorem reprChar_ok {q c : Nat} (hc : c < 0x110000) : ∀ d ∈ PySem.Builtin.Str.reprChar q c, d < 0x110000 := by
  unfold PySem.Builtin.Str.reprChar
  dsimp only
  split
  · exact two_ok (by decide) hc
  · split
    · exact two_ok (by decide) (by decide)
    · split
      · exact two_ok (by decide) (by decide)
      · split
        · exact two_ok (by decide) (by decide)
        · split
          · intro d hd; simp at hd; rw [hd]; exact hc
          · have app : ∀ {a b : Nat} {w : Nat}, a < 0x110000 → b < 0x110000 → ∀ d ∈ [a, b] ++ (List.replicate w 48 ++ (Nat.toDigits 16 c).map Char.toNat), d < 0x110000 := fun ha hb d hd => by
              rcases List.mem_append.mp hd with h | h
              · exact two_ok ha hb d h
              · exact hex_ok _ _ d h
            split
            · exact app (by decide) (by decide)
            · split
              · exact app (by decide) (by decide)
              · exact app (by decide) (by decide)
theorem sok_repr {x : Str} (h : Sok' x) : Sok' (reprText x) := by
  have hq : reprQuote x < 0x110000 := by unfold reprQuote; split <;> decide
  intro c hc
  unfold reprText at hc
  rw [← Array.foldl_toList] at hc
  simp only [Array.toList_push] at hc
  have main : ∀ (l : List Nat) (acc : Array Nat), (∀ c ∈ l, c < 0x110000) → (∀ c ∈ acc.toList, c < 0x110000) → ∀ c ∈ (l.foldl (fun out c => out ++ (PySem.Builtin.Str.reprChar (reprQuote x) c).toArray) acc).toList, c < 0x110000 := by
    intro l
    induction l with
    | nil => intro acc _ h; exact h
    | cons d l ih =>
      intro acc hl ha
      refine ih _ (fun c hc => hl c (by simp [hc])) fun c hc => ?_
      simp only [Array.toList_append] at hc
      rcases List.mem_append.mp hc with h | h
      · exact ha c h
      · exact reprChar_ok (hl d (by simp)) c (by simpa using h)
  rcases List.mem_append.mp hc with h' | h'
  · exact main x.cps.toList #[reprQuote x] h (by intro c hc; simp at hc; rw [hc]; exact hq) c h'
  · simp at h'; rw [h']; exact hq
mutual
def Rn : Nat → D → Prop
  | 0, _ => False
  | k + 1, .tup xs => Rns k xs
  | k + 1, .lst xs => Rns k xs
  | _ + 1, .non => True
  | _ + 1, .bl _ => True
  | _ + 1, .int i => i.natAbs < 10 ^ 13
  | _ + 1, .str s => PyData.strOk s = true
  | _ + 1, _ => False
def Rns : Nat → List D → Prop
  | _, [] => True
  | 0, _ :: _ => False
  | k + 1, d :: ds => Rn k d ∧ Rns (k + 1) ds
end
mutual
theorem Rn.up : ∀ {k : Nat} {d : D}, Rn k d → Rn (k + 1) d
  | 0, _, h => by simp [Rn] at h
  | k + 1, .tup xs, h => by simp only [Rn] at h ⊢; exact Rns.up h
  | k + 1, .lst xs, h => by simp only [Rn] at h ⊢; exact Rns.up h
  | _ + 1, .non, _ => by simp [Rn]
  | _ + 1, .bl _, _ => by simp [Rn]
  | _ + 1, .int _, h => by simp only [Rn] at h ⊢; exact h
  | _ + 1, .str _, h => by simp only [Rn] at h ⊢; exact h
  | _ + 1, .ob _, h => by simp [Rn] at h
  | _ + 1, .dct _, h => by simp [Rn] at h
  | _ + 1, .dtt _, h => by simp [Rn] at h
  | _ + 1, .ins _ _ _, h => by simp [Rn] at h
  | _ + 1, .exc _, h => by simp [Rn] at h
  | _ + 1, .ro _, h => by simp [Rn] at h
  | _ + 1, .gl _, h => by simp [Rn] at h
theorem Rns.up : ∀ {k : Nat} {ds : List D}, Rns k ds → Rns (k + 1) ds
  | _, [], _ => by simp [Rns]
  | 0, _ :: _, h => by simp [Rns] at h
  | k + 1, d :: ds, h => by
    simp only [Rns] at h ⊢
    exact ⟨h.1.up, h.2.up⟩
end
theorem Rn.le {d : D} {k j : Nat} (h : Rn k d) (hj : k ≤ j) : Rn j d := by
  induction hj with
  | refl => exact h
  | step _ ih => exact ih.up
mutual
/-- as the library's data -/
def pyD : D → PyData
  | .tup xs => .tuple (pyDs xs)
  | .lst xs => .list (pyDs xs)
  | .bl b => .bool b
  | .int i => .int i
  | .str s => .str s
  | _ => .none
def pyDs : List D → List PyData
  | [] => []
  | d :: ds => pyD d :: pyDs ds
end
theorem oEq_str {s : Str} (h : PyData.strOk s = true) (S : Sto) : oEq (.str s) (.str s) S = .ok (.bl true) S := by
  rw [oEq_cn (by simpa [Cn] using h) (by simpa [Cn] using h), gd_of rfl]
/-- a comprehension over what is known to be iterated, whose element changes nothing -/
theorem lc_at {a : IF} {it : Itd} {t : Tg} {e : EF} {own : List Nat} {ρ : Lc} {S S1 : Sto} {n : Nat} {xs : Nat → D} {f : Nat → D} (ha : a ρ S = .ok it S1) (hsz : it.size S1 = n) (hat : ∀ E i, i ≤ n → it.at' i (S1 ++ E) = some (if i < n then some (xs i) else none))
    (hn : n ≤ 1000000) (hf : ∀ i, i < n → Pl 38 (f i))
    (step : ∀ i, i < n → ∀ S2, ∃ ρ1, t.put (xs i) (wipeD ρ own) S2 = some ρ1 ∧ e ρ1 S2 = .ok (f i) S2) :
    eLc a t cYes e own ρ S = .ok (.lst ((List.range n).map f)) S1 := by
  refine eq_of_wp (wp_lc (n := n) (xs := xs) ha (fun i acc T => T = S1 ∧ i ≤ n ∧ acc = (List.range i).map f) hsz ?_ hn (by simp) ?_ ?_ ?_)
  · rintro i acc T hi ⟨rfl, _⟩
    exact hat _ i hi
  · rintro i acc T ⟨rfl, hi, rfl⟩
    refine ⟨.rfl', by simp, pls_iff.mpr ?_⟩
    intro d hd
    obtain ⟨j, hj, rfl⟩ := List.mem_map.mp hd
    exact hf j (by have := List.mem_range.mp hj; omega)
  · rintro i acc T hi ⟨rfl, _, rfl⟩
    obtain ⟨ρ1, e1, e2⟩ := step i hi (T ++ [.lst ((List.range i).map f)])
    refine ⟨ρ1, e1, ?_⟩
    rw [cYes_eq]
    refine ⟨T, rfl, rfl, fun _ => ?_, fun h => by cases h⟩
    rw [e2]
    refine ⟨T, rfl, rfl, rfl, by omega, ?_⟩
    rw [List.range_succ, List.map_append]; rfl
  · rintro acc T ⟨rfl, _, rfl⟩
    exact ⟨rfl, rfl⟩
end DV
namespace Fx
open PySem L2 DV
mutual
/-- the same, so many layers deep -/
def Sm : Nat → D → Prop
  | 0, _ => False
  | k + 1, .tup xs => xs.length ≤ 1000000 ∧ Sms k xs
  | k + 1, .lst xs => xs.length ≤ 1000000 ∧ Sms k xs
  | _ + 1, .non => True
  | _ + 1, .bl _ => True
  | _ + 1, .int _ => True
  | _ + 1, .str s => PyData.strOk s = true
  | _ + 1, _ => False
def Sms : Nat → List D → Prop
  | _, [] => True
  | 0, _ :: _ => False
  | k + 1, d :: ds => Sm k d ∧ Sms (k + 1) ds
end
mutual
theorem Sm.up : ∀ {k : Nat} {d : D}, Sm k d → Sm (k + 1) d
  | 0, _, h => by simp [Sm] at h
  | k + 1, .tup xs, h => by simp only [Sm] at h ⊢; exact ⟨h.1, Sms.up h.2⟩
  | k + 1, .lst xs, h => by simp only [Sm] at h ⊢; exact ⟨h.1, Sms.up h.2⟩
  | _ + 1, .non, _ => by simp [Sm]
  | _ + 1, .bl _, _ => by simp [Sm]
  | _ + 1, .int _, _ => by simp [Sm]
  | _ + 1, .str _, h => by simp only [Sm] at h ⊢; exact h
  | _ + 1, .ob _, h => by simp [Sm] at h
  | _ + 1, .dct _, h => by simp [Sm] at h
  | _ + 1, .dtt _, h => by simp [Sm] at h
  | _ + 1, .ins _ _ _, h => by simp [Sm] at h
  | _ + 1, .exc _, h => by simp [Sm] at h
  | _ + 1, .ro _, h => by simp [Sm] at h
  | _ + 1, .gl _, h => by simp [Sm] at h
theorem Sms.up : ∀ {k : Nat} {ds : List D}, Sms k ds → Sms (k + 1) ds
  | _, [], _ => by simp [Sms]
  | 0, _ :: _, h => by simp [Sms] at h
  | k + 1, d :: ds, h => by
    simp only [Sms] at h ⊢
    exact ⟨h.1.up, h.2.up⟩
end
theorem Sm.le {d : D} {k j : Nat} (h : Sm k d) (hj : k ≤ j) : Sm j d := by
  induction hj with
  | refl => exact h
  | step _ ih => exact ih.up
theorem all_bl {n : Nat} {S : Sto} : cAll [.lst ((List.range n).map fun _ => D.bl true)] S = .ok (.bl true) S := by
  have := allBl_map (List.range n) (fun _ => true)
  simp only [cAll, lstOf_lst, this]
  simp
end Fx
set_option Elab.async false
set_option linter.all false
set_option maxRecDepth 100000
set_option exponentiation.threshold 20000
namespace Fx
open PySem L2 DV
section
variable {B : Nat} {s : St} {ss : List St} {r p x : Rat} {S : Sto} {n m : Nat} {k w : Int}
/-- what a stretch's line tells at half so many steps -/
def ln2 (s : St) (w : Int) : Rat := s.f + (s.l - s.f) * Rat.divInt w (2 * s.m)
theorem ln2_len (h : Sok B s) (k : Int) : ln2 s (2 * k + 1) = len s k := by
  have m0 := h.m0
  unfold ln2 len rise
  rw [divInt_div]
  simp only [Rat.intCast_add, Rat.intCast_mul]
  grind
theorem l_line_ok (h : Sok B s) (hw : w.natAbs < 2 ^ 20) (S : Sto) : F_l_line [sd s, .int w] S = .ok (fq (ln2 s w)) S := by
  have bb := h.bb
  have m1 := h.m1
  have m2 := h.m2
  have e1 := fun S => l_sub_ok h.bl h.bf (by omega) S
  have e2 := fun S => l_low_ok (a := w) (b := 2 * s.m) S (by omega) (pow_mono hw (by decide)) (pow_mono (n := 20) (by omega) (by decide))
  have bd := Bq_divInt (n := 20) (a := w) (b := 2 * s.m) (by omega) hw (by omega)
  have e3 := fun S => l_mul_ok (Bq_sub h.bl h.bf) bd (by omega) S
  have e4 := fun S => l_add_ok h.bf (Bq_mul (Bq_sub h.bl h.bf) bd) (by omega) S
  have g : mulOk 2 s.m = true := mulOk_of (a := 20) (b := 20) (by decide) (by omega) (by decide)
  unfold F_l_line b_l_line
  refine run_eq0 ?_ pl_fq
  simp [c_l_line_0, sd0, sd1, sd2, e1, e2, e3, e4, g, ln2]
theorem td0 (S : Sto) : oIx (td ss r) (.int 0) S = .ok (.tup (ss.map sd)) S := rfl
theorem td1 (S : Sto) : oIx (td ss r) (.int 1) S = .ok (fq r) S := rfl
/-- the length of a step, as the laws reckon it -/
theorem l_length_ok (h : Tok B ss r) (h0 : 0 ≤ k) (hk : k < 2 ^ 40) (S : Sto) : F_l_length [td ss r, .int k] S = .ok (fq (le ss r k)) S := by
  refine eq_of_wp (wp_run ?_)
  show Ws (b_l_length [some (td ss r), some (.int k), none] S) _
  unfold b_l_length
  refine ws_seq ?_
  refine ws_forV (qs := ss) (g := sd) (it := .tup (ss.map sd)) (S1 := S) (by simp [td0]) (.inl rfl) (fun i ρ S' => S' = S ∧ sm (ss.take i) ≤ k ∧ ∃ y, ρ = [some (td ss r), some (.int (k - sm (ss.take i))), y]) ⟨rfl, by simpa using h0, none, by simp⟩ ?_ ?_
  · rintro i hi ρ S' ⟨rfl, hle, y5, rfl⟩
    have ok := h.all _ (List.getElem_mem hi)
    have m2 := ok.m2
    refine ⟨_, put_nm _ _ _ _, ?_⟩
    simp only [List.set]
    by_cases hk' : k < sm (ss.take (i + 1))
    · have hk2 := hk'
      rw [sm_take_succ hi] at hk2
      have e2 := fun S => l_line_ok ok (w := 2 * (k - sm (ss.take i)) + 1) (by omega) S
      rw [ln2_len ok, ← le_in (r := r) hi h.all hle hk'] at e2
      have g : mulOk 2 (k - sm (ss.take i)) = true := mulOk_of (a := 20) (b := 20) (by decide) (by omega) (by decide)
      have : c_l_length_0_0 [some (td ss r), some (.int (k - sm (ss.take i))), some (sd ss[i])] S' = .rt (fq (le ss r k)) S' := by
        have lt : k - sm (ss.take i) < ss[i].m := by omega
        simp [c_l_length_0_0, sd0, lt, g, e2]
      rw [ws_seq_eq, this]
      exact end_pure0 (E := nE) pl_fq ⟨rfl, rfl⟩
    · have hk2 := hk'
      rw [sm_take_succ hi] at hk2
      have lt : ¬ k - sm (ss.take i) < ss[i].m := by omega
      refine ws_step (ρ' := [some (td ss r), some (.int (k - sm (ss.take i))), some (sd ss[i])]) (S' := S') (by simp [c_l_length_0_0, sd0, lt]) ?_
      have : c_l_length_0_1 [some (td ss r), some (.int (k - sm (ss.take i))), some (sd ss[i])] S' = .nx [some (td ss r), some (.int (k - sm (ss.take (i + 1)))), some (sd ss[i])] S' := by
        have e : k - sm (ss.take i) - ss[i].m = k - sm (ss.take (i + 1)) := by rw [sm_take_succ hi]; omega
        simp [c_l_length_0_1, sd0, e]
      rw [this]
      exact ⟨rfl, by omega, _, rfl⟩
  · rintro ρ S' ⟨rfl, hle, y5, rfl⟩
    rw [List.take_length] at hle
    have lo := le_out (r := r) h.all hle
    have e : c_l_length_1 [some (td ss r), some (.int (k - sm (ss.take ss.length))), y5] S' = .rt (fq (le ss r k)) S' := by
      simp only [c_l_length_1, sRet_eq, eOp_eq, eVar_0, eC_eq, bind_ok, td1, sb_ok, lo]
    dsimp only
    rw [e]
    exact end_pure0 (E := nE) pl_fq ⟨rfl, rfl⟩
end
end Fx
set_option Elab.async false
set_option linter.all false
set_option maxRecDepth 100000
set_option exponentiation.threshold 20000
namespace Fx
open PySem L2 DV
section
variable {ns : List Int} {p : Int × Int} {T E' : Sto} {k n m : Nat} {Q : D → Sto → Prop} {E : Str → Sto → Prop} {R : Rat} {N : Pq} {ss : List St} {M : Int}
theorem wp_tempoI {i : Int} (m : Nat) (hi : i = m) (h : Pk p k) (hm : m ≤ 1000) (hk : k + 20 + 12 * m ≤ 1000000000000) (q : ∀ ss R p', Drawn 30 9000 m ss R → Pk p' (k + 20 + 12 * m) → Q (td ss R) (Pn ns p' T)) : Wp (F_l_tempo [.ob 0, .int i] (Pn ns p T)) Q E := by
  subst hi; exact wp_tempo h hm hk q
theorem oEq_pair (p q p' q' : Rat) (S : Sto) : oEq (.tup [fq p, fq q]) (.tup [fq p', fq q']) S = .ok (.bl (decide (p = p' ∧ q = q'))) S := by
  have cc : ∀ a b : Rat, Cn 40 (.tup [fq a, fq b]) := fun a b => by simp only [Cn, Cns, and_true]; exact ⟨cn_fq, cn_fq⟩
  have := oNe_pair p q p' q' S
  rw [oNe_cn (cc _ _) (cc _ _)] at this
  rw [oEq_cn (cc _ _) (cc _ _)]
  simp only [Res.ok.injEq, D.bl.injEq, and_true, Bool.not_inj_iff] at this
  rw [this]
theorem sl1 (s : St) (S : Sto) : oSl (sd s) (some 1) none S = .ok (.tup [fq s.f, fq s.l]) S := rfl
/-- one stretch once more at the end -/
theorem wp_twice (h : Pk p k) (hk : k + 2 ≤ 1000000000000) {b : Nat} (d : Drawn b M n ss R) (hn : n ≤ 100) (q : ∀ ss' p', Drawn b M (n + 1) ss' R → Pk p' (k + 2) → Q (td ss' R) (Pn ns p' T)) : Wp (F_l_twice [.ob 0, td ss R] (Pn ns p T)) Q E := by
  have z2 : szOk (0 + 1 + 1) = true := gd_of (by decide)
  have dl := d.len
  have same : Drawn b M (n + 1) ss R := ⟨d.gs, by omega, d.r0, d.br, d.last⟩
  have fin : ∀ {p'}, Pk p' (k + 2) → (endP (Pn ns p T) Q E).rt (td ss R) (Pn ns p' T) := fun hp => ⟨Pn ns _ T, [], td ss R, by simp, kp_pen, frz_pl 40 _ pl_td, q _ _ same hp⟩
  refine wp_run ?_
  show Ws (b_l_twice [some (.ob 0), some (td ss R), none, none] (Pn ns p T)) _
  unfold b_l_twice
  refine ws_step (ρ' := [some (.ob 0), some (td ss R), some (.tup (ss.map sd)), some (fq R)]) (S' := Pn ns p T) (by simp [c_l_twice_0, td]) ?_
  refine ws_seq ?_
  simp only [c_l_twice_1, sIf_eq, bOr_eq, tTru_eq, eOp_eq, eB_eq, aCons_eq, aNil_eq, eVar_s, eVar_0, bind_ok, cLen_tup, List.length_map, eC_eq, oLt_int, truD_bl]
  by_cases h2 : (ss.length : Int) < 2
  · simp only [h2, decide_true, if_true, sb_ok, sRet_eq, eVar_s, eVar_0, ws_rt]
    exact fin (h.mono (by omega))
  · have h0 : 0 < ss.length := by omega
    have he : ss ≠ [] := List.length_pos_iff.mp h0
    have a0 : atI (ss.map sd) 0 = some (sd ss[0]) := by
      rw [atI_0]
      simp [h0]
    simp only [h2, decide_false, Bool.false_eq_true, if_false, eSl_eq, eOp_eq, eVar_s, eVar_0, eC_eq, bind_ok, oIx_tup, a0, pAt_eq, pNo_eq, sl1, eTup_eq, aCons_eq, aNil_eq, List.length_cons, List.length_nil, z2, if_true, oEq_pair, truD_bl]
    by_cases h3 : ss[0].f = R ∧ ss[0].l = R
    · simp only [h3, and_self, decide_true, if_true, bind_ok, truD_bl, sb_ok, sRet_eq, eVar_s, eVar_0, ws_rt]
      exact fin (h.mono (by omega))
    · have s0 := d.gs.all _ (List.getElem_mem h0)
      have sl := d.gs.all _ (List.getLast_mem he)
      have go := fun S => l_goes_on_ok sl.1 s0.1 S
      simp only [h3, decide_false, bind_ok, truD_bl, Bool.false_eq_true, if_false, eCall_eq, aCons_eq, aNil_eq, eOp_eq, eVar_s, eVar_0, eNeg_eq, eC_eq, oIx_tup, at_last he, a0, go]
      by_cases h4 : (ss.getLast he).l = ss[0].f ∧ rise (ss.getLast he) = rise ss[0]
      · simp only [h4, and_self, decide_true, truD_bl, bind_ok, if_true, sb_ok, sRet_eq, eVar_s, eVar_0, ws_rt]
        exact fin (h.mono (by omega))
      · simp only [h4, decide_false, truD_bl, bind_ok, Bool.false_eq_true, if_false, ws_sb, wp_bind]
        refine wp_draw h (by omega) (by decide) (by decide) fun v p' v0 v1 h' => ?_
        by_cases hv : v = 0
        · have hv' : (v == 0) = true := by simpa using hv
          simp only [oEq_int2, hv', wp_ok, wp_bind, ws_sb, truD_bl, if_true, sRet_eq, eVar_s, eVar_0, bind_ok, sb_ok, ws_rt]
          exact fin (h'.mono (by omega))
        · have hv' : (v == 0) = false := by simpa using hv
          have cut : ∀ S, oSl (.tup (ss.map sd)) none (some 1) S = .ok (.tup [sd ss[0]]) S := fun S => by
            obtain ⟨s, rest, rfl⟩ : ∃ s rest, ss = s :: rest := List.exists_cons_of_ne_nil he
            simp only [oSl]
            rfl
          have zz : szOk ((ss.map sd).length + (0 + 1)) = true := gd_of (by simp; omega)
          have ap : ss.map sd ++ [sd ss[0]] = (ss ++ [ss[0]]).map sd := by simp
          simp only [oEq_int2, hv', wp_ok, wp_bind, ws_sb, truD_bl, Bool.false_eq_true, if_false, sNil_eq, ws_nx, c_l_twice_2, sRet_eq, eTup_eq, aCons_eq, aNil_eq, eOp_eq, eVar_s, eVar_0, bind_ok, eSl_eq, pNo_eq, pAt_eq, eC_eq, cut, oAdd_tup, zz, if_true, List.length_cons, List.length_nil, z2, sb_ok, ws_rt, ap]
          refine ⟨Pn ns p' T, [], td (ss ++ [ss[0]]) R, by simp, kp_pen, frz_pl 40 _ pl_td, q _ _ ⟨d.gs.snoc s0 (fun _ => h4), by simp; omega, d.r0, d.br, fun _ => by simpa using h3⟩ (h'.mono (by omega))⟩
end
end Fx
set_option Elab.async false
set_option linter.all false
set_option maxRecDepth 100000
set_option exponentiation.threshold 20000
namespace Fx
open PySem L2 DV
theorem Bq_addi {f : Rat} {i : Int} (hf : Bq 30 f) (h0 : 0 ≤ i) (h1 : i ≤ 1000) : Bq 40 (f + (i : Rat)) := by
  have e : f + (i : Rat) = Rat.divInt (f.num + i * (f.den : Int)) (f.den : Int) := by
    rw [divInt_div]
    have q1 := num_den f
    have q2 := den_pos f
    simp only [Rat.intCast_add, Rat.intCast_mul]
    rw [← q1]
    grind
  rw [e]
  have t2 : i.natAbs * f.den ≤ 1000 * 2 ^ 30 := Nat.mul_le_mul (by omega) (Nat.le_of_lt hf.2)
  have t1 : (i * (f.den : Int)).natAbs ≤ 1000 * 2 ^ 30 := by rw [Int.natAbs_mul, den_abs]; exact t2
  exact Bq_divInt (den_ne f) (by have := hf.1; omega) (by rw [den_abs]; have := hf.2; omega)
theorem cpos {i : Int} (h : 0 < i) : (0 : Rat) < (i : Rat) := by
  have : ((0 : Int) : Rat) < (i : Rat) := by rw [clt]; exact h
  exact this
theorem cnn {i : Int} (h : 0 ≤ i) : (0 : Rat) ≤ (i : Rat) := by
  have : ((0 : Int) : Rat) ≤ (i : Rat) := by rw [cle]; exact h
  exact this
section
end
end Fx
set_option Elab.async false
set_option linter.all false
set_option maxRecDepth 100000
set_option exponentiation.threshold 20000
namespace Fx
open PySem L2 DV
/-- a fraction from 0 on, small -/
def Sm0 (q : Rat) : Prop := 0 ≤ q ∧ Bq 60 q
theorem Sm0.int {i : Int} (h0 : 0 ≤ i) (h1 : i < 2 ^ 40) : Sm0 (i : Rat) := ⟨cnn h0, Bq_int (pow_mono (n := 40) (by omega) (by decide)) (by decide)⟩
section
end
end Fx
set_option Elab.async false
set_option linter.all false
set_option maxRecDepth 100000
set_option exponentiation.threshold 20000
namespace Fx
open PySem L2 DV
/-- by value, of the plain kinds, so deep at most, numbers of so many bits -/
def Ay (n w : Nat) : Nat → D → Prop
  | 0, _ => False
  | k + 1, .tup xs => xs.length ≤ w ∧ ∀ d ∈ xs, Ay n w k d
  | k + 1, .lst xs => xs.length ≤ w ∧ ∀ d ∈ xs, Ay n w k d
  | _ + 1, .dct kvs => kvs = []
  | _ + 1, .non => True
  | _ + 1, .bl _ => True
  | _ + 1, .int i => i.natAbs < 2 ^ n
  | _ + 1, .str s => s.length ≤ 1000 ∧ PyData.strOk s = true
  | _ + 1, _ => False
section
variable {n m k j w : Nat} {d : D} {S : Sto} {xs : List D}
theorem Ay.up : ∀ {k : Nat} {d : D}, Ay n w k d → Ay n w (k + 1) d
  | 0, _, h => by simp [Ay] at h
  | k + 1, .tup xs, h => by simp only [Ay] at h ⊢; exact ⟨h.1, fun d hd => (h.2 d hd).up⟩
  | k + 1, .lst xs, h => by simp only [Ay] at h ⊢; exact ⟨h.1, fun d hd => (h.2 d hd).up⟩
  | _ + 1, .dct _, h => h
  | _ + 1, .non, _ => trivial
  | _ + 1, .bl _, _ => trivial
  | _ + 1, .int _, h => h
  | _ + 1, .str _, h => h
  | _ + 1, .ob _, h => h.elim
  | _ + 1, .dtt _, h => h.elim
  | _ + 1, .ins _ _ _, h => h.elim
  | _ + 1, .exc _, h => h.elim
  | _ + 1, .ro _, h => h.elim
  | _ + 1, .gl _, h => h.elim
theorem Ay.le (h : Ay n w k d) (hj : k ≤ j) : Ay n w j d := by
  induction hj with
  | refl => exact h
  | step _ ih => exact ih.up
theorem Ay.bits (hm : n ≤ m) : ∀ {k : Nat} {d : D}, Ay n w k d → Ay m w k d
  | 0, _, h => by simp [Ay] at h
  | k + 1, .tup xs, h => by simp only [Ay] at h ⊢; exact ⟨h.1, fun d hd => (h.2 d hd).bits hm⟩
  | k + 1, .lst xs, h => by simp only [Ay] at h ⊢; exact ⟨h.1, fun d hd => (h.2 d hd).bits hm⟩
  | _ + 1, .dct _, h => h
  | _ + 1, .non, _ => trivial
  | _ + 1, .bl _, _ => trivial
  | _ + 1, .int _, h => pow_mono h hm
  | _ + 1, .str _, h => h
  | _ + 1, .ob _, h => h.elim
  | _ + 1, .dtt _, h => h.elim
  | _ + 1, .ins _ _ _, h => h.elim
  | _ + 1, .exc _, h => h.elim
  | _ + 1, .ro _, h => h.elim
  | _ + 1, .gl _, h => h.elim
theorem Ay.mono {v : Nat} (hv : w ≤ v) : ∀ {k : Nat} {d : D}, Ay n w k d → Ay n v k d
  | 0, _, h => by simp [Ay] at h
  | k + 1, .tup xs, h => by simp only [Ay] at h ⊢; exact ⟨by omega, fun d hd => (h.2 d hd).mono hv⟩
  | k + 1, .lst xs, h => by simp only [Ay] at h ⊢; exact ⟨by omega, fun d hd => (h.2 d hd).mono hv⟩
  | _ + 1, .dct _, h => h
  | _ + 1, .non, _ => trivial
  | _ + 1, .bl _, _ => trivial
  | _ + 1, .int _, h => h
  | _ + 1, .str _, h => h
  | _ + 1, .ob _, h => h.elim
  | _ + 1, .dtt _, h => h.elim
  | _ + 1, .ins _ _ _, h => h.elim
  | _ + 1, .exc _, h => h.elim
  | _ + 1, .ro _, h => h.elim
  | _ + 1, .gl _, h => h.elim
theorem Ay.pl : ∀ {k : Nat} {d : D}, Ay n w k d → Pl (k + k) d
  | 0, _, h => by simp [Ay] at h
  | k + 1, .tup xs, h => by
    simp only [Ay] at h
    rw [show k + 1 + (k + 1) = (k + k + 1) + 1 by omega]
    simp only [Pl]
    exact pls_iff.mpr fun d hd => (h.2 d hd).pl
  | k + 1, .lst xs, h => by
    simp only [Ay] at h
    rw [show k + 1 + (k + 1) = (k + k + 1) + 1 by omega]
    simp only [Pl]
    exact pls_iff.mpr fun d hd => (h.2 d hd).pl
  | k + 1, .dct kvs, h => by
    have e : kvs = [] := h
    subst e
    rw [show k + 1 + (k + 1) = (k + k + 1) + 1 by omega]
    simp [Pl, Pls]
  | k + 1, .non, _ => by rw [show k + 1 + (k + 1) = (k + k + 1) + 1 by omega]; simp [Pl]
  | k + 1, .bl _, _ => by rw [show k + 1 + (k + 1) = (k + k + 1) + 1 by omega]; simp [Pl]
  | k + 1, .int _, _ => by rw [show k + 1 + (k + 1) = (k + k + 1) + 1 by omega]; simp [Pl]
  | k + 1, .str _, _ => by rw [show k + 1 + (k + 1) = (k + k + 1) + 1 by omega]; simp [Pl]
  | _ + 1, .ob _, h => h.elim
  | _ + 1, .dtt _, h => h.elim
  | _ + 1, .ins _ _ _, h => h.elim
  | _ + 1, .exc _, h => h.elim
  | _ + 1, .ro _, h => h.elim
  | _ + 1, .gl _, h => h.elim
theorem Ay.pl40 (h : Ay n w k d) (hk : k ≤ 18) : Pl 36 d := h.pl.le (by omega)
theorem ay_int {i : Int} (h : i.natAbs < 2 ^ n) : Ay n w (k + 1) (.int i) := h
theorem ay_tup (hl : xs.length ≤ w) (h : ∀ d ∈ xs, Ay n w k d) : Ay n w (k + 1) (.tup xs) := ⟨hl, h⟩
theorem ay_lst (hl : xs.length ≤ w) (h : ∀ d ∈ xs, Ay n w k d) : Ay n w (k + 1) (.lst xs) := ⟨hl, h⟩
theorem ay_fq {q : Rat} (h : Bq n q) (hw : 24 ≤ w) : Ay n w (k + 2) (fq q) := ay_tup (by simp; omega) fun d hd => by
  simp only [List.mem_cons, List.not_mem_nil, or_false] at hd
  rcases hd with rfl | rfl
  · exact ay_int h.1
  · exact ay_int (by rw [den_abs]; exact h.2)
theorem ay_sd {s : St} (h : Sok n s) (hn : 18 ≤ n) (hw : 24 ≤ w) : Ay n w (k + 3) (sd s) := ay_tup (by simp; omega) fun d hd => by
  have m1 := h.m1
  have m2 := h.m2
  simp only [List.mem_cons, List.not_mem_nil, or_false] at hd
  rcases hd with rfl | rfl | rfl
  · exact ay_int (pow_mono (n := 18) (by omega) hn)
  · exact ay_fq h.bf hw
  · exact ay_fq h.bl hw
theorem ay_sds {ss : List St} (h : ∀ s ∈ ss, Sok n s) (hl : ss.length ≤ w) (hn : 18 ≤ n) (hw : 24 ≤ w) : Ay n w (k + 4) (.tup (ss.map sd)) := ay_tup (by rw [List.length_map]; exact hl) fun d hd => by
  obtain ⟨s, hs, rfl⟩ := List.mem_map.mp hd
  exact ay_sd (h s hs) hn hw
def isTup (m : Nat) : D → Bool
  | .tup xs => decide (xs.length = m)
  | _ => false
theorem is_tuple_any (h : Ay n w k d) (m : Nat) (S : Sto) : F_is_tuple_of [d, .int (m : Nat)] S = .ok (.bl (isTup m d)) S := by
  unfold F_is_tuple_of b_is_tuple_of
  refine run_eq0 ?_ (by simp [Pl])
  match k, h with
  | k + 1, h =>
    cases d with
    | tup xs =>
      by_cases e : xs.length = m
      · simp [c_is_tuple_of_0, isTup, e]
      · have : ¬ ((xs.length : Nat) : Int) = (m : Int) := by omega
        simp [c_is_tuple_of_0, isTup, e, this]
    | lst xs => simp [c_is_tuple_of_0, isTup]
    | dct kvs => simp [c_is_tuple_of_0, isTup]
    | non => simp [c_is_tuple_of_0, isTup]
    | bl b => simp [c_is_tuple_of_0, isTup]
    | int i => simp [c_is_tuple_of_0, isTup]
    | str s => simp [c_is_tuple_of_0, isTup]
    | _ => exact h.elim
def isW (a b : Int) : D → Bool
  | .int i => decide (a ≤ i ∧ i ≤ b)
  | _ => false
theorem is_within_any (h : Ay n w k d) (a b : Int) (S : Sto) : F_is_whole_within [d, .int a, .int b] S = .ok (.bl (isW a b d)) S := by
  unfold F_is_whole_within b_is_whole_within
  refine run_eq0 ?_ (by simp [Pl])
  match k, h with
  | k + 1, h =>
    cases d with
    | int i =>
      by_cases h1 : a ≤ i
      · by_cases h2 : i ≤ b
        · simp [c_is_whole_within_0, isW, eChain, h1, h2]
        · simp [c_is_whole_within_0, isW, eChain, h1, h2]
      · simp [c_is_whole_within_0, isW, eChain, h1]
    | lst xs => simp [c_is_whole_within_0, isW]
    | dct kvs => simp [c_is_whole_within_0, isW]
    | non => simp [c_is_whole_within_0, isW]
    | bl b => cases b <;> simp [c_is_whole_within_0, isW]
    | tup i => simp [c_is_whole_within_0, isW]
    | str s => simp [c_is_whole_within_0, isW]
    | _ => exact h.elim
def isWh : D → Bool
  | .int _ => true
  | _ => false
theorem is_whole_any (h : Ay n w k d) (S : Sto) : F_is_whole [d] S = .ok (.bl (isWh d)) S := by
  unfold F_is_whole b_is_whole
  refine run_eq0 ?_ (by simp [Pl])
  match k, h with
  | k + 1, h =>
    cases d with
    | bl b => cases b <;> simp [c_is_whole_0, isWh]
    | tup xs => simp [c_is_whole_0, isWh]
    | lst xs => simp [c_is_whole_0, isWh]
    | dct kvs => simp [c_is_whole_0, isWh]
    | non => simp [c_is_whole_0, isWh]
    | int i => simp [c_is_whole_0, isWh]
    | str s => simp [c_is_whole_0, isWh]
    | _ => exact h.elim
def isFr : D → Bool
  | .tup [.int a, .int b] => decide (b = 1 ∨ (1 < b ∧ Nat.gcd a.natAbs b.natAbs = 1))
  | _ => false
theorem isFr_fq (q : Rat) : isFr (fq q) = true := by
  have r : (q.num.natAbs.gcd q.den) = 1 := q.reduced
  have d := q.den_nz
  show decide _ = true
  refine decide_eq_true ?_
  by_cases h : q.den = 1
  · left; omega
  · right; exact ⟨by omega, by rw [den_abs]; exact r⟩
theorem isFr_ex {d : D} (h : isFr d = true) : ∃ q : Rat, d = fq q := by
  unfold isFr at h
  split at h
  · rename_i a b
    have h := of_decide_eq_true h
    have b0 : 0 < b := by omega
    have cop : Nat.Coprime a.natAbs b.toNat := by
      rcases h with h | h
      · subst h; simp [Nat.Coprime]
      · have : b.toNat = b.natAbs := by omega
        rw [this]; exact h.2
    refine ⟨⟨a, b.toNat, by omega, cop⟩, ?_⟩
    simp only [fq]
    rw [Int.toNat_of_nonneg (by omega)]
  · cases h
theorem isFr_bits {q : Rat} (h : Ay n w k (fq q)) : Bq n q := by
  match k, h with
  | k + 1, h =>
    have h1 := h.2 (.int q.num) (by simp)
    have h2 := h.2 (.int (q.den : Int)) (by simp)
    match k, h1, h2 with
    | k + 1, h1, h2 => exact ⟨h1, by have : (q.den : Int).natAbs < 2 ^ n := h2; rwa [den_abs] at this⟩
theorem is_fraction_any (h : Ay n w k d) (S : Sto) : F_is_fraction [d] S = .ok (.bl (isFr d)) S := by
  unfold F_is_fraction b_is_fraction
  refine run_eq0 ?_ (by simp [Pl])
  match k, h with
  | k + 1, h =>
    cases d with
    | tup xs =>
      by_cases e : xs.length = 2
      · match xs, e, h with
        | [x, y], _, h =>
          have hx := h.2 x (by simp)
          have hy := h.2 y (by simp)
          match k, hx, hy with
          | k + 1, hx, hy =>
            cases x with
            | int a =>
              cases y with
              | int b =>
                by_cases h1 : b = 1
                · subst h1
                  simp [c_is_fraction_0, c_is_fraction_1, c_is_fraction_2, c_is_fraction_3, c_is_fraction_4, sSeq, isFr]
                · have n1 : (b == 1) = false := by simpa using h1
                  by_cases h2 : 1 < b
                  · by_cases h3 : Nat.gcd a.natAbs b.natAbs = 1
                    · simp [c_is_fraction_0, c_is_fraction_1, c_is_fraction_2, c_is_fraction_3, c_is_fraction_4, sSeq, isFr, h1, h2, h3, n1]
                    · have n3 : ((Nat.gcd a.natAbs b.natAbs : Nat) : Int) ≠ 1 := by omega
                      simp [c_is_fraction_0, c_is_fraction_1, c_is_fraction_2, c_is_fraction_3, c_is_fraction_4, sSeq, isFr, h1, h2, h3, n1, n3]
                  · simp [c_is_fraction_0, c_is_fraction_1, c_is_fraction_2, c_is_fraction_3, c_is_fraction_4, sSeq, isFr, h1, h2, n1]
              | bl b =>
                cases b
                · have : oEq (.bl false) (.int 1) S = .ok (.bl false) S := by simp [oEq, oEqG, pyOf, PyData.eqv]
                  simp [c_is_fraction_0, c_is_fraction_1, c_is_fraction_2, c_is_fraction_3, c_is_fraction_4, sSeq, isFr, this]
                · simp [c_is_fraction_0, c_is_fraction_1, c_is_fraction_2, c_is_fraction_3, c_is_fraction_4, sSeq, isFr]
              | tup _ => simp [c_is_fraction_0, c_is_fraction_1, c_is_fraction_2, sSeq, isFr]
              | lst _ => simp [c_is_fraction_0, c_is_fraction_1, c_is_fraction_2, sSeq, isFr]
              | dct _ => simp [c_is_fraction_0, c_is_fraction_1, c_is_fraction_2, sSeq, isFr]
              | non => simp [c_is_fraction_0, c_is_fraction_1, c_is_fraction_2, sSeq, isFr]
              | str _ => simp [c_is_fraction_0, c_is_fraction_1, c_is_fraction_2, sSeq, isFr]
              | _ => exact hy.elim
            | bl a =>
              cases y with
              | int b => cases a <;> simp [c_is_fraction_0, c_is_fraction_1, c_is_fraction_2, c_is_fraction_3, sSeq, isFr]
              | bl b => cases a <;> simp [c_is_fraction_0, c_is_fraction_1, c_is_fraction_2, c_is_fraction_3, sSeq, isFr]
              | tup _ => simp [c_is_fraction_0, c_is_fraction_1, c_is_fraction_2, sSeq, isFr]
              | lst _ => simp [c_is_fraction_0, c_is_fraction_1, c_is_fraction_2, sSeq, isFr]
              | dct _ => simp [c_is_fraction_0, c_is_fraction_1, c_is_fraction_2, sSeq, isFr]
              | non => simp [c_is_fraction_0, c_is_fraction_1, c_is_fraction_2, sSeq, isFr]
              | str _ => simp [c_is_fraction_0, c_is_fraction_1, c_is_fraction_2, sSeq, isFr]
              | _ => exact hy.elim
            | tup _ => simp [c_is_fraction_0, c_is_fraction_1, c_is_fraction_2, sSeq, isFr]
            | lst _ => simp [c_is_fraction_0, c_is_fraction_1, c_is_fraction_2, sSeq, isFr]
            | dct _ => simp [c_is_fraction_0, c_is_fraction_1, c_is_fraction_2, sSeq, isFr]
            | non => simp [c_is_fraction_0, c_is_fraction_1, c_is_fraction_2, sSeq, isFr]
            | str _ => simp [c_is_fraction_0, c_is_fraction_1, c_is_fraction_2, sSeq, isFr]
            | _ => exact hx.elim
      · have ne : ¬ ((xs.length : Nat) : Int) = 2 := by omega
        have nb : (((xs.length : Nat) : Int) != 2) = true := by simpa using ne
        have hf : isFr (.tup xs) = false := by
          unfold isFr
          split
          · rename_i e2; cases e2; simp at e
          · rfl
        simp [c_is_fraction_0, sSeq, nb, hf]
    | lst xs => simp [c_is_fraction_0, sSeq, isFr]
    | dct kvs => simp [c_is_fraction_0, sSeq, isFr]
    | non => simp [c_is_fraction_0, sSeq, isFr]
    | bl b => simp [c_is_fraction_0, sSeq, isFr]
    | int i => simp [c_is_fraction_0, sSeq, isFr]
    | str s => simp [c_is_fraction_0, sSeq, isFr]
    | _ => exact h.elim
/-- the top of a fraction -/
def topD : D → Int
  | .tup (.int a :: _) => a
  | _ => 0
def isAb (d : D) : Bool := isFr d && decide (0 < topD d)
theorem topD_fq (q : Rat) : topD (fq q) = q.num := rfl
theorem is_above_any (h : Ay n w k d) (S : Sto) : F_is_above_nought [d] S = .ok (.bl (isAb d)) S := by
  have e1 := fun S => is_fraction_any h S
  unfold F_is_above_nought b_is_above_nought
  refine run_eq0 ?_ (by simp [Pl])
  by_cases hf : isFr d = true
  · obtain ⟨q, rfl⟩ := isFr_ex hf
    have ix : ∀ S, oIx (fq q) (.int 0) S = .ok (.int q.num) S := fun S => rfl
    have ht := topD_fq q
    simp [c_is_above_nought_0, e1, hf, isAb, ix, ht]
  · have hf' : isFr d = false := by simpa using hf
    simp [c_is_above_nought_0, e1, hf', isAb]
theorem isAb_ex {d : D} (h : isAb d = true) : ∃ q : Rat, d = fq q ∧ 0 < q := by
  unfold isAb at h
  rw [Bool.and_eq_true] at h
  obtain ⟨q, rfl⟩ := isFr_ex h.1
  exact ⟨q, rfl, by have := of_decide_eq_true h.2; rw [topD_fq, num_pos] at this; exact this⟩
def isSt : D → Bool
  | .tup [a, b, c] => isW 1 200000 a && (isAb b && isAb c)
  | _ => false
theorem is_stretch_any (h : Ay n w k d) (S : Sto) : F_is_stretch [d] S = .ok (.bl (isSt d)) S := by
  have e1 := fun S => is_tuple_any h 3 S
  have e1' : ∀ S, F_is_tuple_of [d, .int 3] S = .ok (.bl (isTup 3 d)) S := e1
  unfold F_is_stretch b_is_stretch
  refine run_eq0 ?_ (by simp [Pl])
  by_cases ht : isTup 3 d = true
  · obtain ⟨a, b, c, rfl⟩ : ∃ a b c, d = .tup [a, b, c] := by
      unfold isTup at ht
      split at ht
      · rename_i xs
        have := of_decide_eq_true ht
        match xs, this with
        | [a, b, c], _ => exact ⟨a, b, c, rfl⟩
      · cases ht
    match k, h with
    | k + 1, h =>
      have a1 := fun S => is_within_any (h.2 a (by simp)) 1 200000 S
      have a2 := fun S => is_above_any (h.2 b (by simp)) S
      have a3 := fun S => is_above_any (h.2 c (by simp)) S
      have es : isSt (.tup [a, b, c]) = (isW 1 200000 a && (isAb b && isAb c)) := rfl
      rw [es]
      cases w1 : isW 1 200000 a
      · simp [c_is_stretch_0, c_is_stretch_1, c_is_stretch_2, sSeq, e1', ht, a1, w1]
      · cases w2 : isAb b
        · simp [c_is_stretch_0, c_is_stretch_1, c_is_stretch_2, sSeq, e1', ht, a1, w1, a2, w2]
        · simp [c_is_stretch_0, c_is_stretch_1, c_is_stretch_2, sSeq, e1', ht, a1, w1, a2, w2, a3]
  · have ht' : isTup 3 d = false := by simpa using ht
    have es : isSt d = false := by
      unfold isSt
      split
      · simp [isTup] at ht
      · rfl
    simp [c_is_stretch_0, sSeq, e1', ht', es]
theorem isSt_ex {d : D} (h : isSt d = true) : ∃ s : St, d = sd s ∧ 1 ≤ s.m ∧ s.m ≤ 200000 ∧ 0 < s.f ∧ 0 < s.l := by
  unfold isSt at h
  split at h
  · rename_i a b c
    rw [Bool.and_eq_true, Bool.and_eq_true] at h
    obtain ⟨h1, h2, h3⟩ := h
    obtain ⟨f, rfl, f0⟩ := isAb_ex h2
    obtain ⟨l, rfl, l0⟩ := isAb_ex h3
    unfold isW at h1
    split at h1
    · rename_i i
      have := of_decide_eq_true h1
      exact ⟨⟨i, f, l⟩, rfl, this.1, this.2, f0, l0⟩
    · cases h1
  · cases h
end
end Fx
set_option Elab.async false
set_option linter.all false
set_option maxRecDepth 100000
set_option exponentiation.threshold 20000
namespace Fx
open PySem L2 DV
theorem sd_inj {s t : St} (h : sd s = sd t) : s = t := by
  simp only [sd, D.tup.injEq, List.cons.injEq, D.int.injEq, fq_inj, and_true] at h
  cases s; cases t
  simp at h ⊢
  exact h
theorem map_inj {α : Type} {f : α → D} (hf : ∀ x y, f x = f y → x = y) : ∀ {xs ys : List α}, xs.map f = ys.map f → xs = ys
  | [], [], _ => rfl
  | [], _ :: _, h => by cases h
  | _ :: _, [], h => by cases h
  | x :: xs, y :: ys, h => by
    rw [List.map_cons, List.map_cons, List.cons.injEq] at h
    rw [hf _ _ h.1, map_inj hf h.2]
theorem td_inj {ss ts : List St} {r q : Rat} (h : td ss r = td ts q) : ss = ts ∧ r = q := by
  simp only [td, D.tup.injEq, List.cons.injEq, fq_inj, and_true] at h
  exact ⟨map_inj (fun _ _ => sd_inj) h.1, h.2⟩
structure Tm' (ss : List St) (r : Rat) : Prop where
  n24 : ss.length ≤ 24
  all : ∀ s ∈ ss, 1 ≤ s.m ∧ s.m ≤ 200000 ∧ 0 < s.f ∧ 0 < s.l
  r0 : 0 < r
  sum : sm ss ≤ 200000
  plain : Adj ss
  last : ∀ (h : ss ≠ []), ¬ ((ss.getLast h).f = r ∧ (ss.getLast h).l = r)
/-- is a tempo -/
def Tm (d : D) : Prop := ∃ ss r, d = td ss r ∧ Tm' ss r
theorem gd_no {p : Prop} (h : ¬ p) : gd p = false := by
  cases z : gd p with
  | true => exact absurd (of_gd z) h
  | false => rfl
section
variable {n m k j w : Nat} {d : D} {S : Sto} {xs : List D} {ss : List St} {r : Rat} {B : Nat}
theorem tm_td : Tm (td ss r) ↔ Tm' ss r := ⟨fun ⟨ts, q, e, h⟩ => by obtain ⟨rfl, rfl⟩ := td_inj e; exact h, fun h => ⟨ss, r, rfl, h⟩⟩
theorem is_plain_any (h : ∀ s ∈ ss, Sok B s) (n24 : ss.length ≤ 24) (S : Sto) : F_is_plain [.tup (ss.map sd), fq r] S = .ok (.bl (gd (Adj ss ∧ ∀ (h : ss ≠ []), ¬ ((ss.getLast h).f = r ∧ (ss.getLast h).l = r)))) S := by
  refine eq_of_wp (wp_run ?_)
  show Ws (b_is_plain [some (.tup (ss.map sd)), some (fq r), none] S) _
  unfold b_is_plain
  refine ws_seq ?_
  refine ws_forR (lo := 1) (n := ss.length - 1) (S1 := S) ?_ (fun i ρ S' => (∀ (j : Nat) (hj : j < i) (h : j + 1 < ss.length), ¬ (ss[j].l = ss[j + 1].f ∧ rise ss[j] = rise ss[j + 1])) ∧ ∃ y, ρ = [some (.tup (ss.map sd)), some (fq r), y] ∧ S' = S) ⟨fun j hj => by omega, _, rfl, rfl⟩ ?_ ?_
  · have g : gd (-(2 ^ 62) ≤ (1 : Int) ∧ (1 : Int) < 2 ^ 62 ∧ -(2 ^ 62) ≤ (ss.length : Int) ∧ (ss.length : Int) < 2 ^ 62) = true := gd_of (by omega)
    simp only [iRng_eq, aCons_eq, aNil_eq, eC_eq, bind_ok, eB_eq, eVar_0, cLen_tup, List.length_map, g, if_true]
    rw [show ((ss.length : Int) - 1).toNat = ss.length - 1 by omega]
  · rintro i hi ρ S' ⟨pre, y, rfl, rfl⟩
    have g := fun S => goes_on_ok (h ss[i] (List.getElem_mem _)) (h ss[i + 1] (List.getElem_mem (by omega))) S
    have i1 : atI (ss.map sd) ((1 : Int) + (i : Int) - 1) = some (sd ss[i]) := by
      rw [show (1 : Int) + (i : Int) - 1 = (i : Int) by omega, atI_cast, List.getElem?_map, List.getElem?_eq_getElem (by omega)]
      rfl
    have i2 : atI (ss.map sd) ((1 : Int) + (i : Int)) = some (sd ss[i + 1]) := by
      rw [show (1 : Int) + (i : Int) = ((i + 1 : Nat) : Int) by omega, atI_cast, List.getElem?_map, List.getElem?_eq_getElem (by omega)]
      rfl
    refine ⟨_, put_nm _ _ _ _, ?_⟩
    simp only [List.set]
    by_cases hg : ss[i].l = ss[i + 1].f ∧ rise ss[i] = rise ss[i + 1]
    · simp only [decide_eq_true hg] at g
      have e : c_is_plain_0_0 [some (.tup (ss.map sd)), some (fq r), some (.int ((1 : Int) + (i : Int)))] S' = .rt (.bl false) S' := by
        simp [c_is_plain_0_0, i1, i2, g]
      rw [e]
      have no : gd (Adj ss ∧ ∀ (h : ss ≠ []), ¬ ((ss.getLast h).f = r ∧ (ss.getLast h).l = r)) = false := gd_no fun z => z.1 i (by omega) hg
      exact ⟨S', [], .bl false, by simp, .rfl', by simp [frz], by rw [no], rfl⟩
    · simp only [decide_eq_false hg] at g
      have e : c_is_plain_0_0 [some (.tup (ss.map sd)), some (fq r), some (.int ((1 : Int) + (i : Int)))] S' = .nx [some (.tup (ss.map sd)), some (fq r), some (.int ((1 : Int) + (i : Int)))] S' := by
        simp [c_is_plain_0_0, i1, i2, g]
      rw [e]
      exact ⟨fun j hj hl => by
        by_cases e : j = i
        · subst e; exact hg
        · exact pre j (by omega) hl, _, rfl, rfl⟩
  · rintro ρ S' ⟨pre, y, rfl, rfl⟩
    have adj : Adj ss := fun j hj => pre j (by omega) hj
    by_cases he : ss = []
    · have yes : gd (Adj ss ∧ ∀ (h : ss ≠ []), ¬ ((ss.getLast h).f = r ∧ (ss.getLast h).l = r)) = true := gd_of ⟨adj, fun h => absurd he h⟩
      rw [yes]
      subst he
      have : c_is_plain_1 [some (.tup (([] : List St).map sd)), some (fq r), y] S' = .rt (.bl true) S' := by simp [c_is_plain_1]
      dsimp only
      rw [this]
      exact end_pure0 (by simp [Pl]) ⟨rfl, rfl⟩
    · have i1 := at_last (g := sd) he
      have c1 : ∀ S, oSl (sd (ss.getLast he)) (some 1) none S = .ok (.tup [fq (ss.getLast he).f, fq (ss.getLast he).l]) S := fun S => rfl
      have ne : ss.isEmpty = false := by simpa using he
      by_cases l : (ss.getLast he).f = r ∧ (ss.getLast he).l = r
      · have no : gd (Adj ss ∧ ∀ (h : ss ≠ []), ¬ ((ss.getLast h).f = r ∧ (ss.getLast h).l = r)) = false := gd_no fun z => z.2 he l
        rw [no]
        have : c_is_plain_1 [some (.tup (ss.map sd)), some (fq r), y] S' = .rt (.bl false) S' := by simp [c_is_plain_1, ne, i1, c1, oNe_pair, l]
        dsimp only
        rw [this]
        exact end_pure0 (by simp [Pl]) ⟨rfl, rfl⟩
      · have yes : gd (Adj ss ∧ ∀ (h : ss ≠ []), ¬ ((ss.getLast h).f = r ∧ (ss.getLast h).l = r)) = true := gd_of ⟨adj, fun _ => l⟩
        rw [yes]
        have : c_is_plain_1 [some (.tup (ss.map sd)), some (fq r), y] S' = .rt (.bl true) S' := by simp [c_is_plain_1, ne, i1, c1, oNe_pair, l]
        dsimp only
        rw [this]
        exact end_pure0 (by simp [Pl]) ⟨rfl, rfl⟩
theorem all_map {α : Type} (f : α → Bool) (g : D → Bool) (xs : List D) (S : Sto) : cAll [.lst (xs.map fun x => D.bl (g x))] S = .ok (.bl (xs.all g)) S := by
  have := allBl_map xs g
  simp only [cAll, lstOf_lst, this]
  congr 2
  rw [List.all_map]
  rfl
theorem st_list : ∀ {xs : List D}, xs.all isSt = true → ∃ ss : List St, xs = ss.map sd ∧ ∀ s ∈ ss, 1 ≤ s.m ∧ s.m ≤ 200000 ∧ 0 < s.f ∧ 0 < s.l
  | [], _ => ⟨[], rfl, fun s h => by simp at h⟩
  | x :: xs, h => by
    rw [List.all_cons, Bool.and_eq_true] at h
    obtain ⟨s, rfl, hs⟩ := isSt_ex h.1
    obtain ⟨ss, rfl, hss⟩ := st_list h.2
    exact ⟨s :: ss, rfl, fun t ht => by
      rcases List.mem_cons.mp ht with rfl | ht
      · exact hs
      · exact hss t ht⟩
theorem isSt_sd {s : St} (h1 : 1 ≤ s.m) (h2 : s.m ≤ 200000) (h3 : 0 < s.f) (h4 : 0 < s.l) : isSt (sd s) = true := by
  have ab : ∀ q : Rat, 0 < q → isAb (fq q) = true := fun q hq => by
    unfold isAb
    rw [isFr_fq, topD_fq, Bool.true_and]
    exact decide_eq_true (by rw [num_pos]; exact hq)
  show (isW 1 200000 (.int s.m) && (isAb (fq s.f) && isAb (fq s.l))) = true
  rw [ab _ h3, ab _ h4, Bool.and_true, Bool.and_true]
  exact decide_eq_true ⟨h1, h2⟩
theorem is_tempo_any (h : Ay n w k d) (hn : n ≤ 1000) (S : Sto) : F_is_tempo [d] S = .ok (.bl (gd (Tm d))) S := by
  have e1 : ∀ S, F_is_tuple_of [d, .int 2] S = .ok (.bl (isTup 2 d)) S := fun S => is_tuple_any h 2 S
  unfold F_is_tempo b_is_tempo
  refine run_eq0 ?_ (by simp [Pl])
  show (sSeq c_is_tempo_0 _) [some d, none, none, none] S = _
  by_cases ht : isTup 2 d = true
  · obtain ⟨a, b, rfl⟩ : ∃ a b, d = .tup [a, b] := by
      unfold isTup at ht
      split at ht
      · rename_i xs
        have := of_decide_eq_true ht
        match xs, this with
        | [a, b], _ => exact ⟨a, b, rfl⟩
      · cases ht
    refine (seq_nx (ρ' := [some (.tup [a, b]), none, none, none]) (S' := S) (by simp [c_is_tempo_0, e1, ht]) _).trans ?_
    refine (seq_nx (ρ' := [some (.tup [a, b]), some a, some b, none]) (S' := S) (by simp [c_is_tempo_1]) _).trans ?_
    match k, h with
    | k + 1, h =>
      have ha := h.2 a (by simp)
      have hb := h.2 b (by simp)
      have notup : (∀ xs, a ≠ .tup xs) → gd (Tm (.tup [a, b])) = false := fun z => gd_no fun ⟨ss, r, e, _⟩ => by
        simp only [td, D.tup.injEq, List.cons.injEq] at e
        exact z _ e.1
      match k, ha with
      | k + 1, ha =>
        cases a with
        | tup xs =>
          by_cases hl : xs.length ≤ 24
          · have nl : ¬ (24 : Int) < (xs.length : Nat) := by omega
            refine (seq_nx (ρ' := [some (.tup [.tup xs, b]), some (.tup xs), some b, none]) (S' := S) (by simp [c_is_tempo_2, nl]) _).trans ?_
            have e2 := is_above_any hb S
            have l1 := lc_map (a := iSeq (eVar 1)) (t := .nm 3) (e := eCall F_is_stretch (aCons (eVar 3) aNil)) (own := [3]) (ρ := [some (.tup [.tup xs, b]), some (.tup xs), some b, none]) (S := S) (S1 := S) (it := .tup (xs.map id)) (qs := xs) (g := id) (f := fun x => D.bl (isSt x)) (by simp) (.inl rfl) (by omega) (fun _ _ => by simp [Pl]) (by
              intro x hx S2
              have := is_stretch_any (ha.2 x hx) S2
              exact ⟨_, put_nm _ _ _ _, by simp [wipeD, this]⟩)
            have a1 := all_map (fun b : Bool => b) isSt xs S
            by_cases hab : isAb b = true
            · obtain ⟨r, rfl, r0⟩ := isAb_ex hab
              by_cases hall : xs.all isSt = true
              · obtain ⟨ss, rfl, hss⟩ := st_list hall
                refine (seq_nx (ρ' := [some (.tup [.tup (ss.map sd), fq r]), some (.tup (ss.map sd)), some (fq r), none]) (S' := S) (by
                  simp only [c_is_tempo_3, sIf_eq, bOr_eq, bNot_eq, tTru_eq, eCall_eq, aCons_eq, aNil_eq, eVar_s, eVar_0, bind_ok, e2, hab, truD_bl, eB_eq, l1, a1, hall, Bool.not_true, Bool.false_eq_true, if_false, sb_ok, sNil_eq]) _).trans ?_
                have br : Bq n r := isFr_bits hb
                have hso : ∀ s ∈ ss, Sok n s := fun s hs => by
                  have hy : Ay n w (k + 1) (sd s) := by
                    have := ha.2 (sd s) (List.mem_map_of_mem hs)
                    exact this.up
                  have hf := hy.2 (fq s.f) (by simp)
                  have hl' := hy.2 (fq s.l) (by simp)
                  obtain ⟨a1, a2, a3, a4⟩ := hss s hs
                  exact ⟨hn, a1, a2, a3, a4, isFr_bits hf, isFr_bits hl'⟩
                rw [List.length_map] at hl
                have l2 := lc_map (a := iSeq (eVar 1)) (t := .nm 3) (e := eOp oIx (eVar 3) (eC (.int 0))) (own := [3]) (ρ := [some (.tup [.tup (ss.map sd), fq r]), some (.tup (ss.map sd)), some (fq r), none]) (S := S) (S1 := S) (it := .tup (ss.map sd)) (qs := ss) (g := sd) (f := fun s => D.int s.m) (by simp) (.inl rfl) (by omega) (fun _ _ => by simp [Pl]) (by
                  intro s hs S2
                  exact ⟨_, put_nm _ _ _ _, by simp [wipeD, sd]⟩)
                have a2 : cSum [.lst (ss.map fun s => D.int s.m)] S = .ok (.int (sm ss)) S := by
                  have := allInt_map ss St.m
                  simp only [cSum, lstOf_lst, this]
                  rfl
                have e3 := is_plain_any (r := r) hso hl S
                have et : D.tup [.tup (ss.map sd), fq r] = td ss r := rfl
                by_cases hs : sm ss ≤ 200000
                · have eqv : gd (Tm (.tup [.tup (ss.map sd), fq r])) = gd (Adj ss ∧ ∀ (h : ss ≠ []), ¬ ((ss.getLast h).f = r ∧ (ss.getLast h).l = r)) := by
                    congr 1
                    rw [et]
                    refine propext (tm_td.trans ⟨fun z => ⟨z.plain, z.last⟩, fun z => ⟨hl, hss, r0, hs, z.1, z.2⟩⟩)
                  rw [eqv]
                  simp only [c_is_tempo_4, sRet_eq, eAnd_eq, eOp_eq, eB_eq, aCons_eq, aNil_eq, l2, bind_ok, a2, eC_eq, oLe_int, decide_eq_true hs, truD_bl, eCall_eq, eVar_s, eVar_0, e3, sb_ok]
                · have no : gd (Tm (.tup [.tup (ss.map sd), fq r])) = false := gd_no fun z => by
                    rw [et, tm_td] at z
                    exact hs z.sum
                  rw [no]
                  simp only [c_is_tempo_4, sRet_eq, eAnd_eq, eOp_eq, eB_eq, aCons_eq, aNil_eq, l2, bind_ok, a2, eC_eq, oLe_int, decide_eq_false hs, truD_bl, sb_ok]
              · have hall' : xs.all isSt = false := by simpa using hall
                have no : gd (Tm (.tup [.tup xs, fq r])) = false := gd_no fun ⟨ss, r, e, z⟩ => by
                  simp only [td, D.tup.injEq, List.cons.injEq] at e
                  refine hall ?_
                  rw [e.1, List.all_map, List.all_eq_true]
                  intro s hs
                  obtain ⟨a1, a2, a3, a4⟩ := z.all s hs
                  exact isSt_sd a1 a2 a3 a4
                rw [no]
                refine seq_rt ?_ _
                simp only [c_is_tempo_3, sIf_eq, bOr_eq, bNot_eq, tTru_eq, eCall_eq, aCons_eq, aNil_eq, eVar_s, eVar_0, bind_ok, e2, hab, truD_bl, eB_eq, l1, a1, hall', Bool.not_true, Bool.not_false, Bool.false_eq_true, if_false, if_true, sb_ok, sRet_eq, eC_eq]
            · have hab' : isAb b = false := by simpa using hab
              have no : gd (Tm (.tup [.tup xs, b])) = false := gd_no fun ⟨ss, r, e, z⟩ => by
                simp only [td, D.tup.injEq, List.cons.injEq, and_true] at e
                refine hab ?_
                rw [e.2]
                unfold isAb
                rw [isFr_fq, topD_fq, Bool.true_and]
                exact decide_eq_true (by rw [num_pos]; exact z.r0)
              rw [no]
              refine seq_rt ?_ _
              simp only [c_is_tempo_3, sIf_eq, bOr_eq, bNot_eq, tTru_eq, eCall_eq, aCons_eq, aNil_eq, eVar_s, eVar_0, bind_ok, e2, hab', truD_bl, Bool.not_false, if_true, sb_ok, sRet_eq, eC_eq]
          · have nl : (24 : Int) < (xs.length : Nat) := by omega
            have no : gd (Tm (.tup [.tup xs, b])) = false := gd_no fun ⟨ss, r, e, z⟩ => by
              simp only [td, D.tup.injEq, List.cons.injEq] at e
              have := z.n24
              rw [e.1, List.length_map] at hl
              exact hl this
            rw [no]
            refine seq_rt ?_ _
            simp [c_is_tempo_2, nl]
        | lst xs => rw [notup (fun _ => nofun)]; refine seq_rt ?_ _; simp [c_is_tempo_2]
        | dct xs => rw [notup (fun _ => nofun)]; refine seq_rt ?_ _; simp [c_is_tempo_2]
        | non => rw [notup (fun _ => nofun)]; refine seq_rt ?_ _; simp [c_is_tempo_2]
        | bl xs => rw [notup (fun _ => nofun)]; refine seq_rt ?_ _; simp [c_is_tempo_2]
        | int xs => rw [notup (fun _ => nofun)]; refine seq_rt ?_ _; simp [c_is_tempo_2]
        | str xs => rw [notup (fun _ => nofun)]; refine seq_rt ?_ _; simp [c_is_tempo_2]
        | _ => exact ha.elim
  · have ht' : isTup 2 d = false := by simpa using ht
    have no : gd (Tm d) = false := gd_no fun ⟨ss, r, e, z⟩ => by
      rw [e] at ht
      simp [td, isTup] at ht
    rw [no]
    refine seq_rt ?_ _
    simp [c_is_tempo_0, e1, ht']
theorem refuse_any (h : Ay n w k d) (hn : n ≤ 1000) (ht : ¬ Tm d) (S : Sto) : F_refuse_no_tempo [d] S = .ex "NoTempo" S := by
  have e1 := is_tempo_any h hn S
  rw [gd_no ht] at e1
  unfold F_refuse_no_tempo b_refuse_no_tempo
  refine run_ex0 (ρ := [some d]) ?_
  show c_refuse_no_tempo_0 [some d] S = _
  simp only [c_refuse_no_tempo_0, sIf_eq, bNot_eq, tTru_eq, eCall_eq, aCons_eq, aNil_eq, eVar_0, bind_ok, e1, truD_bl, Bool.not_false, sb_ok, if_true, sRaise_eq]
end
end Fx
set_option Elab.async false
set_option linter.all false
set_option maxRecDepth 100000
set_option exponentiation.threshold 20000
namespace Fx
open PySem PySem.Spec L2 DV
/-- tuples of whole numbers -/
def Ti (n w : Nat) : Nat → D → Prop
  | 0, _ => False
  | k + 1, .tup xs => xs.length ≤ w ∧ ∀ d ∈ xs, Ti n w k d
  | _ + 1, .int i => i.natAbs < 2 ^ n
  | _ + 1, _ => False
section
variable {n w k j : Nat} {d : D} {S T : Sto} {xs : List D} {ns : List Int} {p : Int × Int} {Q : D → Sto → Prop} {E : Str → Sto → Prop}
theorem Ti.ay : ∀ {k : Nat} {d : D}, Ti n w k d → Ay n w k d
  | 0, _, h => h.elim
  | k + 1, .tup xs, h => ⟨h.1, fun d hd => (h.2 d hd).ay⟩
  | k + 1, .int i, h => h
  | _ + 1, .lst _, h => h.elim
  | _ + 1, .dct _, h => h.elim
  | _ + 1, .non, h => h.elim
  | _ + 1, .bl _, h => h.elim
  | _ + 1, .str _, h => h.elim
  | _ + 1, .ob _, h => h.elim
  | _ + 1, .dtt _, h => h.elim
  | _ + 1, .ins _ _ _, h => h.elim
  | _ + 1, .exc _, h => h.elim
  | _ + 1, .ro _, h => h.elim
  | _ + 1, .gl _, h => h.elim
theorem Ti.cn : ∀ {k : Nat} {d : D}, Ti n w k d → Cn (k + k) d
  | 0, _, h => h.elim
  | k + 1, .tup xs, h => by
    rw [show k + 1 + (k + 1) = (k + k + 1) + 1 by omega]
    simp only [Cn]
    exact cns_iff.mpr fun d hd => (h.2 d hd).cn
  | k + 1, .int i, h => by rw [show k + 1 + (k + 1) = (k + k + 1) + 1 by omega]; simp [Cn]
  | _ + 1, .lst _, h => h.elim
  | _ + 1, .dct _, h => h.elim
  | _ + 1, .non, h => h.elim
  | _ + 1, .bl _, h => h.elim
  | _ + 1, .str _, h => h.elim
  | _ + 1, .ob _, h => h.elim
  | _ + 1, .dtt _, h => h.elim
  | _ + 1, .ins _ _ _, h => h.elim
  | _ + 1, .exc _, h => h.elim
  | _ + 1, .ro _, h => h.elim
  | _ + 1, .gl _, h => h.elim
theorem ti_fq {q : Rat} (h : Bq n q) (hw : 24 ≤ w) : Ti n w (k + 2) (fq q) := ⟨by simp; omega, fun d hd => by
  simp only [List.mem_cons, List.not_mem_nil, or_false] at hd
  rcases hd with rfl | rfl
  · exact h.1
  · show (q.den : Int).natAbs < 2 ^ n
    rw [den_abs]; exact h.2⟩
theorem ti_td {ss : List St} {r : Rat} (h : Tok n ss r) (hn : 18 ≤ n) (hw : 24 ≤ w) : Ti n w (k + 5) (td ss r) := ⟨by simp; omega, fun d hd => by
  have := h.n24
  simp only [List.mem_cons, List.not_mem_nil, or_false] at hd
  rcases hd with rfl | rfl
  · refine ⟨by rw [List.length_map]; omega, fun d hd => ?_⟩
    obtain ⟨s, hs, rfl⟩ := List.mem_map.mp hd
    have ok := h.all s hs
    have m1 := ok.m1
    have m2 := ok.m2
    refine ⟨by simp; omega, fun d hd => ?_⟩
    simp only [List.mem_cons, List.not_mem_nil, or_false] at hd
    rcases hd with rfl | rfl | rfl
    · exact pow_mono (n := 18) (by omega) hn
    · exact ti_fq ok.bf hw
    · exact ti_fq ok.bl hw
  · exact ti_fq h.br hw⟩
theorem cutD_mem' {α : Type} {xs : List α} {lo hi : Option Int} {x : α} (h : x ∈ cutD xs lo hi) : x ∈ xs := by
  unfold cutD at h
  exact List.mem_of_mem_drop (List.mem_of_mem_take h)
theorem cutD_len' {α : Type} {xs : List α} {lo hi : Option Int} : (cutD xs lo hi).length ≤ xs.length := by
  unfold cutD
  rw [List.length_take, List.length_drop]
  omega
theorem oSl_tup (xs : List D) (lo hi : Option Int) (S : Sto) : oSl (.tup xs) lo hi S = .ok (.tup (cutD xs lo hi)) S := rfl
theorem ay_bl (b : Bool) : Ay n w (k + 1) (.bl b) := trivial
/-- what a leaf is bent to -/
def Lf (n w k : Nat) (zs : List D) : Prop := 1 ≤ zs.length ∧ zs.length ≤ 16 ∧ ∀ z ∈ zs, Ay n w k z
theorem bent_end {F : FF} {zs : List D} {d : D} {y2 y4 : Option D} {kk : Nat} {T0 : Sto} {n w k : Nat} (hz : Lf n w k zs) (h36 : k ≤ 18) (h : Pk p kk) (hk : kk + 1 ≤ 1000000000000)
    (q : ∀ d' p', Ay n w k d' → Pk p' (kk + 1) → Q d' (Pn ns p' T)) {p0 : Int × Int} :
    Ws (c_l_bent_4 F [some (.ob 0), some d, y2, some (.lst zs), y4] (Pn ns p T)) (endP (Pn ns p0 T) Q E) := by
  obtain ⟨z1, z2, z3⟩ := hz
  simp only [c_l_bent_4, sRet_eq, eOp_eq, eCall_eq, eB_eq, aCons_eq, aNil_eq, eVar_s, eVar_0, bind_ok, cLen_lst, ws_sb, wp_bind]
  refine wp_draw h (by omega) (by omega) (by omega) fun a p1 a0 a1 h1 => ?_
  obtain ⟨v, hv, ev⟩ := atI_mem (l := zs) a0 a1
  simp only [oIx_lst, ev, wp_ok, ws_rt]
  exact ⟨Pn ns p1 T, [], v, by simp, kp_pen, frz_pl 40 _ ((z3 v hv).pl40 h36 |>.le (by decide)), q v p1 (z3 v hv) h1⟩
theorem lf_first (hn : 18 ≤ n) (hw : 24 ≤ w) : Lf n w (k + 3) [.non, .bl true, .bl false, .int (-1), .int 0, .int 1, .str "", .str "a", .tup [], .lst [], .dct [], .tup [.int 1, .int 1], .tup [.int 2, .int 4], .tup [.int 0, .int 1], .lst [.int 1, .int 1], .tup [.tup [.int 1, .int 1]]] := by
  refine ⟨by simp, by simp, fun z hz => ?_⟩
  have small : ∀ i : Int, i.natAbs < 2 ^ 3 → ∀ k, Ay n w (k + 1) (.int i) := fun i hi k => ay_int (pow_mono hi (by omega))
  have pair : ∀ i j : Int, i.natAbs < 2 ^ 3 → j.natAbs < 2 ^ 3 → ∀ k, Ay n w (k + 2) (.tup [.int i, .int j]) := fun i j hi hj k => ay_tup (by simp; omega) fun d hd => by
    simp only [List.mem_cons, List.not_mem_nil, or_false] at hd
    rcases hd with rfl | rfl
    · exact small _ hi _
    · exact small _ hj _
  simp only [List.mem_cons, List.not_mem_nil, or_false] at hz
  rcases hz with rfl | rfl | rfl | rfl | rfl | rfl | rfl | rfl | rfl | rfl | rfl | rfl | rfl | rfl | rfl | rfl
  · exact trivial
  · exact trivial
  · exact trivial
  · exact small _ (by decide) _
  · exact small _ (by decide) _
  · exact small _ (by decide) _
  · exact ⟨by decide, by decide +kernel⟩
  · exact ⟨by decide, by decide +kernel⟩
  · exact ay_tup (by simp) (by simp)
  · exact ay_lst (by simp) (by simp)
  · exact rfl
  · exact pair _ _ (by decide) (by decide) _
  · exact pair _ _ (by decide) (by decide) _
  · exact pair _ _ (by decide) (by decide) _
  · exact ay_lst (by simp; omega) fun d hd => by
      simp only [List.mem_cons, List.not_mem_nil, or_false] at hd
      rcases hd with rfl | rfl
      · exact small _ (by decide) _
      · exact small _ (by decide) _
  · exact ay_tup (by simp; omega) fun d hd => by
      rw [List.mem_singleton.mp hd]
      exact pair _ _ (by decide) (by decide) _
theorem wp_bent (hn : 18 ≤ n) (hn2 : n ≤ 60) (hw : 24 ≤ w) (hw2 : w ≤ 400) : ∀ (K k : Nat) {d : D} {p : Int × Int} {kk : Nat} {Q : D → Sto → Prop} {E : Str → Sto → Prop}, k ≤ K → k ≤ 12 → Ti n w k d → Pk p kk → kk + 2 * K + 2 ≤ 1000000000000 →
    (∀ d' p', Ay (n + 1) (2 * w + 1) (k + 3) d' → Pk p' (kk + 2 * K + 2) → Q d' (Pn ns p' T)) → Wp (R_l_bent K [.ob 0, d] (Pn ns p T)) Q E
  | 0, k, d, p, kk, Q, E, hk, _, ht, _, _, _ => by
    have e : k = 0 := by omega
    subst e
    exact ht.elim
  | K + 1, k, d, p, kk, Q, E, hk, hk2, ht, h, hkk, q => by
    have z0 : szOk 0 = true := gd_of (by decide)
    have z1 : szOk (0 + 1) = true := gd_of (by decide)
    have z2 : szOk (0 + 1 + 1) = true := gd_of (by decide)
    have z16 : szOk (0 + 1 + 1 + 1 + 1 + 1 + 1 + 1 + 1 + 1 + 1 + 1 + 1 + 1 + 1 + 1 + 1) = true := gd_of (by decide)
    have z7 : szOk (0 + 1 + 1 + 1 + 1 + 1 + 1 + 1) = true := gd_of (by decide)
    have lf0 := lf_first (n := n + 1) (w := 2 * w + 1) (k := k) (by omega) (by omega)
    refine wp_run ?_
    show Ws (b_l_bent (R_l_bent K) [some (.ob 0), some d, none, none, none] (Pn ns p T)) _
    unfold b_l_bent
    refine ws_seq ?_
    -- what a leaf becomes
    have leaf : ∀ (p1 : Int × Int), Pk p1 (kk + 1) → Ws ((sSeq (c_l_bent_1 (R_l_bent K)) (sSeq (c_l_bent_2 (R_l_bent K)) (sSeq (c_l_bent_3 (R_l_bent K)) (c_l_bent_4 (R_l_bent K))))) [some (.ob 0), some d, none, none, none] (Pn ns p1 T)) (endP (Pn ns p T) Q E) := by
      intro p1 h1
      refine ws_step (ρ' := [some (.ob 0), some d, none, some (.lst [.non, .bl true, .bl false, .int (-1), .int 0, .int 1, .str "", .str "a", .tup [], .lst [], .dct [], .tup [.int 1, .int 1], .tup [.int 2, .int 4], .tup [.int 0, .int 1], .lst [.int 1, .int 1], .tup [.tup [.int 1, .int 1]]]), none]) (S' := Pn ns p1 T) (by
        simp only [c_l_bent_1, sAsg_nm, eLst_eq, eTup_eq, eNeg_eq, aCons_eq, aNil_eq, eC_eq, bind_ok, List.length_cons, List.length_nil, z0, z1, z2, z16, if_true, sb_ok, List.set]) ?_
      generalize [D.non, .bl true, .bl false, .int (-1), .int 0, .int 1, .str "", .str "a", .tup [], .lst [], .dct [], .tup [.int 1, .int 1], .tup [.int 2, .int 4], .tup [.int 0, .int 1], .lst [.int 1, .int 1], .tup [.tup [.int 1, .int 1]]] = zs at lf0
      refine ws_seq ?_
      simp only [c_l_bent_2, sAsg_nm, eCall_eq, aCons_eq, aNil_eq, eC_eq, eVar_s, eVar_0, bind_ok, ws_sb]
      refine wp_draw h1 (by omega) (by decide) (by decide) fun a p2 a0 a1 h2 => ?_
      simp only [ws_nx, List.set]
      refine ws_seq ?_
      have fin : ∀ zs, Lf (n + 1) (2 * w + 1) (k + 3) zs → Ws (c_l_bent_4 (R_l_bent K) [some (.ob 0), some d, none, some (.lst zs), some (.int a)] (Pn ns p2 T)) (endP (Pn ns p T) Q E) := fun zs hz =>
        bent_end (T0 := T) hz (by omega) h2 (by omega) fun d' p' hd hp => q d' p' hd (hp.mono (by omega))
      by_cases ha : 0 < a
      · match k, ht, hk2, lf0, fin with
        | k + 1, ht, hk2, lf0, fin =>
          cases d with
          | tup xs =>
            have hl := ht.1
            have el : ∀ x ∈ xs, Ay (n + 1) (2 * w + 1) (k + 3) x := fun x hx => ((((ht.2 x hx).ay.bits (Nat.le_succ n)).mono (by omega)).le (by omega))
            have cl := cutD_len' (xs := xs) (lo := none) (hi := some 1)
            have zc : szOk (xs.length + (cutD xs none (some 1)).length) = true := gd_of (by omega)
            have zd : szOk (xs.length + xs.length) = true := gd_of (by omega)
            have ls : ∀ S, cList [.tup xs] S = .ok (.lst xs) S := fun S => rfl
            have rv : ∀ ρ S, eVar 1 ρ S = .ok (.tup xs) S → eRev (eVar 1) ρ S = .ok (.tup xs.reverse) S := fun ρ S e => by simp only [eRev, e, bind_ok]
            have rv' := rv [some (.ob 0), some (.tup xs), none, some (.lst zs), some (.int a)] (Pn ns p2 T) rfl
            simp only [c_l_bent_3, sIf_eq, bAnd_eq, tTru_eq, eOp_eq, eIs_eq, eC_eq, eVar_s, eVar_0, bind_ok, oGt_int, ha, decide_true, truD_bl, if_true, isD_eq, tyD_tup, kb_tuple_tuple, sb_ok, sAsg_nm, eLst_eq, eB_eq, eSl_eq, pAt_eq, pNo_eq, eNeg_eq, eTup_eq, aCons_eq, aNil_eq, ls, rv', oSl_tup, oAdd_tup, zc, zd, List.length_cons, List.length_nil, z1, z7, ws_nx, List.set]
            refine fin _ ⟨by simp, by simp, fun z hz => ?_⟩
            simp only [List.mem_cons, List.not_mem_nil, or_false] at hz
            rcases hz with rfl | rfl | rfl | rfl | rfl | rfl | rfl
            · exact ay_lst (by omega) el
            · exact ay_tup (by rw [List.length_reverse]; omega) fun x hx => el x (List.mem_reverse.mp hx)
            · exact ay_tup (by rw [List.length_append]; omega) fun x hx => by
                rcases List.mem_append.mp hx with hx | hx
                · exact el x hx
                · exact el x (cutD_mem' hx)
            · exact ay_tup (by have := cutD_len' (xs := xs) (lo := some 1) (hi := none); omega) fun x hx => el x (cutD_mem' hx)
            · exact ay_tup (by have := cutD_len' (xs := xs) (lo := none) (hi := some (-1)); omega) fun x hx => el x (cutD_mem' hx)
            · refine ay_tup (by simp <;> omega) fun x hx => ?_
              rw [List.mem_singleton.mp hx]
              exact ay_tup (k := k + 2) (by omega) fun x hx => ((((ht.2 x hx).ay.bits (Nat.le_succ n)).mono (by omega)).le (by omega))
            · exact ay_tup (by rw [List.length_append]; omega) fun x hx => by
                rcases List.mem_append.mp hx with hx | hx
                · exact el x hx
                · exact el x hx
          | int i =>
            have hi : i.natAbs < 2 ^ n := ht
            have e18 : (2 : Nat) ^ 18 ≤ 2 ^ n := Nat.pow_le_pow_right (by decide) hn
            have e1 : (2 : Nat) ^ (n + 1) = 2 ^ n * 2 := Nat.pow_succ ..
            have g : mulOk i 2 = true := mulOk_of (a := 60) (b := 10) (pow_mono hi hn2) (by decide) (by decide)
            have lg : gd (i.natAbs.log2 < 1920) = true := gd_of (by
              by_cases h0 : i.natAbs = 0
              · rw [h0]; decide
              · exact (Nat.log2_lt h0).mpr (pow_mono hi (by omega)))
            have st : ∀ S, cStr [.int i] S = .ok (.str (toString i)) S := fun S => by simp only [cStr, lg, if_true]
            have p18 : (2 : Nat) ^ 18 = 262144 := by decide
            have p3 : (2 : Nat) ^ n < 2 ^ (n + 1) := by omega
            simp only [c_l_bent_3, sIf_eq, bAnd_eq, tTru_eq, eOp_eq, eIs_eq, eC_eq, eVar_s, eVar_0, bind_ok, oGt_int, ha, decide_true, truD_bl, if_true, isD_eq, tyD_int, kb_int_tuple, kb_int_int, Bool.false_eq_true, if_false, sb_ok, sAsg_nm, eLst_eq, eB_eq, aCons_eq, aNil_eq, oAdd_int, oSub_int, oMul_int _ g, st, List.length_cons, List.length_nil, z7, ws_nx, List.set]
            refine fin _ ⟨by simp, by simp, fun z hz => ?_⟩
            simp only [List.mem_cons, List.not_mem_nil, or_false] at hz
            rcases hz with rfl | rfl | rfl | rfl | rfl | rfl | rfl
            · exact ay_int (by omega)
            · exact ay_int (by omega)
            · exact ay_int (by omega)
            · exact ay_int (by omega)
            · exact ay_int (by omega)
            · refine ⟨?_, sok_iff.mpr (sok_of _)⟩
              have h60 : i.natAbs < 2 ^ 60 := pow_mono hi hn2
              have h19 : i.natAbs < 10 ^ 19 := by
                have h6 : (2 : Nat) ^ 60 < 10 ^ 19 := by decide
                omega
              have := int_text_length_le10 (k := 19) (by decide) h19
              show (Str.ofString (toString i)).length ≤ 1000
              rw [PySem.ofString_length]
              omega
            · exact trivial
          | _ => exact ht.elim
      · simp only [c_l_bent_3, sIf_eq, bAnd_eq, tTru_eq, eOp_eq, eC_eq, eVar_s, eVar_0, bind_ok, oGt_int, ha, decide_false, truD_bl, Bool.false_eq_true, if_false, sb_ok, sNil_eq, ws_nx]
        exact fin zs lf0
    match k, ht, hk, hk2, q, leaf with
    | k + 1, ht, hk, hk2, q, leaf =>
      cases d with
      | tup xs =>
        have hl := ht.1
        have cx : Cn 40 (.tup xs) := (Ti.cn (k := k + 1) ht).le (by omega)
        have ce : Cn 40 (.tup []) := by simp [Cn, Cns]
        by_cases he : xs = []
        · have ne : oNe (.tup xs) (.tup []) (Pn ns p T) = .ok (.bl false) (Pn ns p T) := by
            rw [oNe_cn cx ce, he, gd_of rfl]; rfl
          simp only [c_l_bent_0, sIf_eq, bAnd_eq, tTru_eq, eOp_eq, eIs_eq, eTup_eq, aNil_eq, eC_eq, eVar_s, eVar_0, bind_ok, isD_eq, tyD_tup, kb_tuple_tuple, truD_bl, if_true, List.length_nil, z0, ne, Bool.false_eq_true, if_false, sb_ok, sNil_eq, ws_nx]
          exact leaf p (h.mono (by omega))
        · have ne : oNe (.tup xs) (.tup []) (Pn ns p T) = .ok (.bl true) (Pn ns p T) := by
            rw [oNe_cn cx ce]
            have : gd (D.tup xs = D.tup []) = false := gd_no fun e => he (by simpa using e)
            rw [this]; rfl
          simp only [c_l_bent_0, sIf_eq, bAnd_eq, tTru_eq, eOp_eq, eIs_eq, eTup_eq, aNil_eq, eC_eq, eVar_s, eVar_0, bind_ok, isD_eq, tyD_tup, kb_tuple_tuple, truD_bl, if_true, List.length_nil, z0, ne, eCall_eq, aCons_eq, ws_sb, wp_bind]
          refine wp_draw h (by omega) (by decide) (by decide) fun a p1 a0 a1 h1 => ?_
          simp only [wp_ok, wp_bind, bind_ok, oGt_int, truD_bl]
          by_cases ha : 0 < a
          · simp only [decide_eq_true ha, if_true]
            have l1 := List.length_pos_iff.mpr he
            refine ws_seq ?_
            simp only [sAsg_nm, eCall_eq, eB_eq, aCons_eq, aNil_eq, eVar_s, eVar_0, bind_ok, cLen_tup, ws_sb]
            refine wp_draw h1 (by omega) (by omega) (by omega) fun b p2 b0 b1 h2 => ?_
            simp only [ws_nx, List.set]
            obtain ⟨v, hv, ev⟩ := atI_mem (l := xs) b0 b1
            have ht' := ht.2 v hv
            have c1 := cutD_len' (xs := xs) (lo := none) (hi := some b)
            have c2 := cutD_len' (xs := xs) (lo := some (b + 1)) (hi := none)
            have zc1 : szOk ((cutD xs none (some b)).length + (0 + 1)) = true := gd_of (by omega)
            have zc2 : ∀ y : D, szOk ((cutD xs none (some b) ++ [y]).length + (cutD xs (some (b + 1)) none).length) = true := fun y => gd_of (by rw [List.length_append, List.length_singleton]; omega)
            simp only [sRet_eq, eOp_eq, eTup_eq, eCall_eq, eSl_eq, pAt_eq, pNo_eq, aCons_eq, aNil_eq, eC_eq, eVar_s, eVar_0, bind_ok, oSl_tup, oIx_tup, ev, ws_sb, wp_bind]
            refine wp_bent hn hn2 hw hw2 K k (by omega) (by omega) ht' h2 (by omega) fun y p3 hy h3 => ?_
            simp only [wp_ok, wp_bind, bind_ok, List.length_cons, List.length_nil, z1, if_true, oAdd_tup, zc1, oAdd_int, oSl_tup, zc2, ws_rt]
            have res : Ay (n + 1) (2 * w + 1) (k + 1 + 3) (.tup (cutD xs none (some b) ++ [y] ++ cutD xs (some (b + 1)) none)) := by
              refine ay_tup (k := k + 3) ?_ fun x hx => ?_
              · rw [List.length_append, List.length_append, List.length_singleton]
                omega
              · have old : ∀ x ∈ xs, Ay (n + 1) (2 * w + 1) (k + 3) x := fun x hx => ((((ht.2 x hx).ay.bits (Nat.le_succ n)).mono (by omega)).le (by omega))
                rcases List.mem_append.mp hx with hx | hx
                · rcases List.mem_append.mp hx with hx | hx
                  · exact old x (cutD_mem' hx)
                  · rw [List.mem_singleton.mp hx]; exact hy
                · exact old x (cutD_mem' hx)
            refine ⟨Pn ns p3 T, [], _, by simp, kp_pen, frz_pl 40 _ ((res.pl40 (by omega)).le (by decide)), q _ p3 res (h3.mono (by omega))⟩
          · simp only [decide_eq_false ha, Bool.false_eq_true, if_false, sNil_eq, ws_nx]
            exact leaf p1 h1
      | int i =>
        simp only [c_l_bent_0, sIf_eq, bAnd_eq, tTru_eq, eIs_eq, eVar_s, eVar_0, bind_ok, isD_eq, tyD_int, kb_int_tuple, truD_bl, Bool.false_eq_true, if_false, sb_ok, sNil_eq, ws_nx]
        exact leaf p (h.mono (by omega))
      | _ => exact ht.elim
end
end Fx
set_option Elab.async false
set_option linter.all false
set_option maxRecDepth 100000
set_option exponentiation.threshold 20000
namespace Fx
open PySem PySem.Spec L2 DV
theorem Sok.mono {B C : Nat} {s : St} (h : Sok B s) (hB : B ≤ C) (hC : C ≤ 1000) : Sok C s := ⟨hC, h.m1, h.m2, h.f0, h.l0, h.bf.mono hB, h.bl.mono hB⟩
theorem Tok.mono {B C : Nat} {ss : List St} {r : Rat} (h : Tok B ss r) (hB : B ≤ C) (hC : C ≤ 1000) : Tok C ss r := ⟨h.n24, fun s hs => (h.all s hs).mono hB hC, h.r0, h.br.mono hB, h.sum, h.plain, h.last⟩
def Bad (d : D) : Prop := Ay 41 60 10 d ∧ ¬ Tm d
section
variable {n w k : Nat} {a b c d : D} {ss : List St} {R : Rat}
theorem ay1 (hw : 3 ≤ w) (ha : Ay n w k a) : Ay n w (k + 1) (.tup [a]) := ay_tup (by simp; omega) fun d hd => by rw [List.mem_singleton.mp hd]; exact ha
theorem ay2 (hw : 3 ≤ w) (ha : Ay n w k a) (hb : Ay n w k b) : Ay n w (k + 1) (.tup [a, b]) := ay_tup (by simp; omega) fun d hd => by
  simp only [List.mem_cons, List.not_mem_nil, or_false] at hd
  rcases hd with rfl | rfl
  · exact ha
  · exact hb
theorem ay3 (hw : 3 ≤ w) (ha : Ay n w k a) (hb : Ay n w k b) (hc : Ay n w k c) : Ay n w (k + 1) (.tup [a, b, c]) := ay_tup (by simp; omega) fun d hd => by
  simp only [List.mem_cons, List.not_mem_nil, or_false] at hd
  rcases hd with rfl | rfl | rfl
  · exact ha
  · exact hb
  · exact hc
theorem ayl2 (hw : 3 ≤ w) (ha : Ay n w k a) (hb : Ay n w k b) : Ay n w (k + 1) (.lst [a, b]) := ay_lst (by simp; omega) fun d hd => by
  simp only [List.mem_cons, List.not_mem_nil, or_false] at hd
  rcases hd with rfl | rfl
  · exact ha
  · exact hb
theorem ayl3 (hw : 3 ≤ w) (ha : Ay n w k a) (hb : Ay n w k b) (hc : Ay n w k c) : Ay n w (k + 1) (.lst [a, b, c]) := ay_lst (by simp; omega) fun d hd => by
  simp only [List.mem_cons, List.not_mem_nil, or_false] at hd
  rcases hd with rfl | rfl | rfl
  · exact ha
  · exact hb
  · exact hc
theorem aypr {i j : Int} (hi : i.natAbs < 2 ^ 18) (hj : j.natAbs < 2 ^ 18) : Ay 41 60 (k + 2) (.tup [.int i, .int j]) := ay2 (by decide) (ay_int (pow_mono hi (by decide))) (ay_int (pow_mono hj (by decide)))
theorem no_sd_fq {s : St} {q : Rat} : sd s ≠ fq q := by simp [sd, fq]
theorem no_tm_len {xs : List D} (h : xs.length ≠ 2) : ¬ Tm (.tup xs) := fun ⟨ss, q, e, _⟩ => by
  simp only [td, D.tup.injEq] at e
  rw [e] at h
  exact h rfl
theorem no_tm_hd {a b : D} (h : ∀ ts : List St, ts.length ≤ 24 → a ≠ .tup (ts.map sd)) : ¬ Tm (.tup [a, b]) := fun ⟨ss, q, e, t⟩ => by
  simp only [td, D.tup.injEq, List.cons.injEq, and_true] at e
  exact h ss t.n24 e.1
theorem no_tm_one {a b : D} (h : ∀ s : St, a ≠ sd s) : ¬ Tm (.tup [.tup [a], b]) := no_tm_hd fun ts _ e => by
  simp only [D.tup.injEq] at e
  match ts, e with
  | [], e => simp at e
  | [s], e => exact h s (by simpa using e)
  | _ :: _ :: _, e => simp at e
theorem bad1 (h : Tok 40 ss R) : Bad (.tup [.tup (ss.map sd), .tup [.int 0, .int 1]]) := by
  refine ⟨ay2 (k := 9) (by decide) (ay_sds (k := 5) (fun s hs => (h.all s hs).mono (by decide) (by decide)) (by have := h.n24; omega) (by decide) (by decide)) (aypr (k := 7) (by decide) (by decide)), fun t => ?_⟩
  have : D.tup [.tup (ss.map sd), .tup [.int 0, .int 1]] = td ss 0 := rfl
  rw [this, tm_td] at t
  exact absurd t.r0 (by decide)
theorem aysd (h : Tok 40 ss R) : Ay 41 60 (k + 4) (.tup (ss.map sd)) := ay_sds (fun s hs => (h.all s hs).mono (by decide) (by decide)) (by have := h.n24; omega) (by decide) (by decide)
theorem ayR (h : Tok 40 ss R) : Ay 41 60 (k + 2) (fq R) := ay_fq (h.br.mono (by decide)) (by decide)
theorem aysn (h : Tok 40 ss R) (ha : Ay 41 60 (k + 4) a) : Ay 41 60 (k + 5) (.tup (ss.map sd ++ [a])) := ay_tup (by have := h.n24; simp; omega) fun d hd => by
  rcases List.mem_append.mp hd with hd | hd
  · exact (aysd (k := k) h).2 d hd |>.up
  · rw [List.mem_singleton.mp hd]; exact ha
theorem bad2 (h : Tok 40 ss R) : Bad (.tup [.tup (ss.map sd ++ [.tup [.int 0, .tup [.int 1, .int 1], .tup [.int 2, .int 1]]]), fq R]) := by
  refine ⟨ay2 (k := 9) (by decide) (aysn (k := 4) h (ay3 (k := 7) (by decide) (ay_int (by decide)) (aypr (k := 5) (by decide) (by decide)) (aypr (k := 5) (by decide) (by decide)))) (ayR (k := 7) h), fun t => ?_⟩
  have : D.tup [.tup (ss.map sd ++ [.tup [.int 0, .tup [.int 1, .int 1], .tup [.int 2, .int 1]]]), fq R] = td (ss ++ [⟨0, 1, 2⟩]) R := by
    rw [td, List.map_append]; rfl
  rw [this, tm_td] at t
  exact absurd (t.all ⟨0, 1, 2⟩ (by simp)).1 (by decide)
theorem bad3 (h : Tok 40 ss R) : Bad (.tup [.tup (ss.map sd)]) := ⟨ay1 (k := 9) (by decide) (aysd (k := 5) h), no_tm_len (by simp)⟩
theorem bad4 (h : Tok 40 ss R) : Bad (.lst [.tup (ss.map sd), fq R]) := ⟨ayl2 (k := 9) (by decide) (aysd (k := 5) h) (ayR (k := 7) h), fun ⟨_, _, e, _⟩ => by simp [td] at e⟩
theorem bad5 : Bad .non := ⟨trivial, fun ⟨_, _, e, _⟩ => by simp [td] at e⟩
theorem bad6 (h : Tok 40 ss R) : Bad (.tup (ss.map sd)) := ⟨aysd (k := 6) h, fun ⟨ts, q, e, _⟩ => by
  simp only [td, D.tup.injEq] at e
  match ss, e with
  | [], e => simp at e
  | [_], e => simp at e
  | [_, s], e =>
    simp only [List.map_cons, List.map_nil, List.cons.injEq, and_true] at e
    exact no_sd_fq e.2
  | _ :: _ :: _ :: _, e => simp at e⟩
/-- the k-th of twenty-five stretches -/
def farD (j : Nat) : D := .tup [.int (1 + j), .tup [.int (1 + (j : Int) % 2), .int 3], .tup [.int (1 + (j : Int) % 2), .int 3]]
theorem ayfar : Ay 41 60 9 (.tup ((List.range 25).map farD)) := ay_tup (by simp) fun d hd => by
  obtain ⟨j, hj, rfl⟩ := List.mem_map.mp hd
  have := List.mem_range.mp hj
  exact ay3 (k := 7) (by decide) (ay_int (pow_mono (n := 18) (by omega) (by decide))) (aypr (k := 5) (by omega) (by decide)) (aypr (k := 5) (by omega) (by decide))
theorem bad7 : Bad (.tup [.tup ((List.range 25).map farD), .tup [.int 3, .int 1]]) := ⟨ay2 (k := 9) (by decide) ayfar (aypr (k := 7) (by decide) (by decide)), no_tm_hd fun ts hl e => by
  have e1 := congrArg (fun d => match d with | D.tup xs => xs.length | _ => 0) e
  simp only [List.length_map, List.length_range] at e1
  omega⟩
theorem bad8 (h : Tok 40 ss R) : Bad (.tup [.tup [.tup [.int 200001, .tup [.int 1, .int 1], .tup [.int 2, .int 1]]], fq R]) := by
  refine ⟨ay2 (k := 9) (by decide) (ay1 (k := 8) (by decide) (ay3 (k := 7) (by decide) (ay_int (by decide)) (aypr (k := 5) (by decide) (by decide)) (aypr (k := 5) (by decide) (by decide)))) (ayR (k := 7) h), fun t => ?_⟩
  have : D.tup [.tup [.tup [.int 200001, .tup [.int 1, .int 1], .tup [.int 2, .int 1]]], fq R] = td [⟨200001, 1, 2⟩] R := rfl
  rw [this, tm_td] at t
  exact absurd (t.all ⟨200001, 1, 2⟩ (by simp)).2.1 (by decide)
theorem bad9 (h : Tok 40 ss R) : Bad (.tup [.tup (ss.map sd ++ [.tup [.int 7, fq R, fq R]]), fq R]) := by
  refine ⟨ay2 (k := 9) (by decide) (aysn (k := 4) h (ay3 (k := 7) (by decide) (ay_int (by decide)) (ayR (k := 5) h) (ayR (k := 5) h))) (ayR (k := 7) h), fun t => ?_⟩
  have : D.tup [.tup (ss.map sd ++ [.tup [.int 7, fq R, fq R]]), fq R] = td (ss ++ [⟨7, R, R⟩]) R := by
    rw [td, List.map_append]; rfl
  rw [this, tm_td] at t
  exact t.last (by simp) (by simp)
theorem bad10 (h : Tok 40 ss R) : Bad (.tup [.tup (ss.map sd), fq R, fq R]) := ⟨ay3 (k := 9) (by decide) (aysd (k := 5) h) (ayR (k := 7) h) (ayR (k := 7) h), no_tm_len (by simp)⟩
theorem bad11 (h : Tok 40 ss R) : Bad (.tup [.tup [.tup [.int 2, .tup [.int 1, .int 1], .tup [.int 2, .int 1]], .tup [.int 2, .tup [.int 2, .int 1], .tup [.int 3, .int 1]]], fq R]) := by
  refine ⟨ay2 (k := 9) (by decide) (ay2 (k := 8) (by decide) (ay3 (k := 7) (by decide) (ay_int (by decide)) (aypr (k := 5) (by decide) (by decide)) (aypr (k := 5) (by decide) (by decide))) (ay3 (k := 7) (by decide) (ay_int (by decide)) (aypr (k := 5) (by decide) (by decide)) (aypr (k := 5) (by decide) (by decide)))) (ayR (k := 7) h), fun t => ?_⟩
  have : D.tup [.tup [.tup [.int 2, .tup [.int 1, .int 1], .tup [.int 2, .int 1]], .tup [.int 2, .tup [.int 2, .int 1], .tup [.int 3, .int 1]]], fq R] = td [⟨2, 1, 2⟩, ⟨2, 2, 3⟩] R := rfl
  rw [this, tm_td] at t
  refine t.plain 0 (by simp) ⟨rfl, ?_⟩
  show ((2 : Rat) - 1) / ((2 : Int) : Rat) = ((3 : Rat) - 2) / ((2 : Int) : Rat)
  grind
theorem bad12 (h : Tok 40 ss R) : Bad (.tup [.tup [.tup [.int 1, .tup [.int 2, .int 4], .tup [.int 1, .int 1]]], fq R]) :=
  ⟨ay2 (k := 9) (by decide) (ay1 (k := 8) (by decide) (ay3 (k := 7) (by decide) (ay_int (by decide)) (aypr (k := 5) (by decide) (by decide)) (aypr (k := 5) (by decide) (by decide)))) (ayR (k := 7) h), no_tm_one fun s e => by
    simp only [sd, fq, D.tup.injEq, List.cons.injEq, D.int.injEq, and_true] at e
    have c := s.f.reduced
    have e1 : s.f.num = 2 := e.2.1.1.symm
    have e2 : s.f.den = 4 := by have := e.2.1.2; omega
    rw [e1, e2] at c
    exact absurd c (by decide)⟩
theorem bad13 (h : Tok 40 ss R) : Bad (.tup [.tup [.tup [.bl true, .tup [.int 1, .int 1], .tup [.int 2, .int 1]]], fq R]) :=
  ⟨ay2 (k := 9) (by decide) (ay1 (k := 8) (by decide) (ay3 (k := 7) (by decide) (ay_bl true) (aypr (k := 5) (by decide) (by decide)) (aypr (k := 5) (by decide) (by decide)))) (ayR (k := 7) h), no_tm_one fun s e => by simp [sd] at e⟩
theorem bad14 (h : Tok 40 ss R) : Bad (.tup [.tup [.lst [.int 1, .tup [.int 1, .int 1], .tup [.int 2, .int 1]]], fq R]) :=
  ⟨ay2 (k := 9) (by decide) (ay1 (k := 8) (by decide) (ayl3 (k := 7) (by decide) (ay_int (by decide)) (aypr (k := 5) (by decide) (by decide)) (aypr (k := 5) (by decide) (by decide)))) (ayR (k := 7) h), no_tm_one fun s e => by simp [sd] at e⟩
theorem bad15 (h : Tok 40 ss R) : Bad (.tup [.lst (ss.map sd), fq R]) :=
  ⟨ay2 (k := 9) (by decide) (ay_lst (k := 8) (by have := h.n24; simp; omega) (aysd (k := 5) h).2) (ayR (k := 7) h), no_tm_hd fun ts _ e => by simp at e⟩
theorem Bad.pl {d : D} (h : Bad d) : Pl 36 d := h.1.pl40 (by decide)
section
variable {ns : List Int} {p : Int × Int} {T : Sto} {Q : D → Sto → Prop} {E : Str → Sto → Prop}
/-- what is drawn to be bent -/
theorem wp_bents (h : Pk p k) (hk : k + 120 ≤ 1000000000000) (ht : Tok 40 ss R) {x2 x3 x4 x5 x6 x7 : Option D} (q : ∀ (ds : List D) p', (∀ d ∈ ds, Ay 41 60 10 d) → ds.length = 4 → Pk p' (k + 104) → Q (.lst ds) (Pn ns p' T)) :
    Wp (eLc (iRng (aCons (eC (.int 4)) aNil)) (.nm 5) cYes (eCall F_l_bent (aCons (eVar 0) (aCons (eVar 1) aNil))) [5] [some (.ob 0), some (td ss R), x2, x3, x4, x5, x6, x7] (Pn ns p T)) Q E := by
  have g4 : gd (-(2 ^ 62) ≤ (4 : Int) ∧ (4 : Int) < 2 ^ 62) = true := gd_of (by omega)
  refine wp_lc (n := 4) (xs := fun i => .int (0 + (i : Nat))) (S1 := Pn ns p T) (it := .rng 0 4) (by simp only [iRng_eq, aCons_eq, aNil_eq, eC_eq, bind_ok, g4, if_true]; rfl) (fun i acc T' => ∃ (p' : Int × Int), T' = Pn ns p' T ∧ acc.length = i ∧ (∀ d ∈ acc, Ay 41 60 10 d) ∧ Pk p' (k + 26 * i)) rfl (fun i acc T' hi _ => isRng 0 4 _ i hi) (by omega) ⟨p, rfl, rfl, by simp, h⟩ ?_ ?_ ?_
  · rintro i acc T' ⟨p', rfl, hl, hb, _⟩
    exact ⟨kp_pen, by omega, (pls_iff (k := 38)).mpr fun d hd => ((hb d hd).pl40 (by decide)).le (by decide)⟩
  · rintro i acc T' hi ⟨p', rfl, hl, hb, h'⟩
    refine ⟨_, put_nm _ _ _ _, ?_⟩
    rw [cYes_eq]
    refine ⟨Pn ns p' T, rfl, rfl, fun _ => ?_, fun z => by cases z⟩
    simp only [wipeD, List.foldl, List.set, eCall_eq, aCons_eq, aNil_eq, eVar_s, eVar_0, bind_ok]
    rw [pn_app]
    refine wp_bent (n := 40) (w := 24) (by decide) (by decide) (by decide) (by decide) 12 5 (by decide) (by decide) (ti_td (k := 0) ht (by decide) (by decide)) h' (by omega) fun d' p2 hd h2 => ?_
    refine ⟨Pn ns p2 T, rfl, rfl, p2, rfl, by simp [hl], fun d hd2 => ?_, h2.mono (by omega)⟩
    rcases List.mem_append.mp hd2 with hd2 | hd2
    · exact hb d hd2
    · rw [List.mem_singleton.mp hd2]
      exact (hd.mono (by decide)).le (by decide)
  · rintro acc T' ⟨p', rfl, hl, hb, h'⟩
    exact q acc p' hb hl (h'.mono (by omega))
theorem wp_bad (h : Pk p k) (hk : k + 120 ≤ 1000000000000) (ht : Tok 40 ss R) (q : ∀ (ds : List D) p', (∀ d ∈ ds, Bad d) → ds.length ≤ 19 → Pk p' (k + 104) → Q (.lst ds) (Pn ns p' T)) : Wp (F_l_bad_tempos [.ob 0, td ss R] (Pn ns p T)) Q E := by
  have z1 : szOk (0 + 1) = true := gd_of (by decide)
  have z2 : szOk (0 + 1 + 1) = true := gd_of (by decide)
  have z3 : szOk (0 + 1 + 1 + 1) = true := gd_of (by decide)
  have z7 : szOk (0 + 1 + 1 + 1 + 1 + 1 + 1 + 1) = true := gd_of (by decide)
  have g25 : gd (-(2 ^ 62) ≤ (25 : Int) ∧ (25 : Int) < 2 ^ 62) = true := gd_of (by omega)
  have n24 := ht.n24
  have zs : szOk ((ss.map sd).length + (0 + 1)) = true := gd_of (by simp; omega)
  refine wp_run ?_
  show Ws (b_l_bad_tempos [some (.ob 0), some (td ss R), none, none, none, none, none, none] (Pn ns p T)) _
  unfold b_l_bad_tempos
  refine ws_step (ρ' := [some (.ob 0), some (td ss R), some (.tup (ss.map sd)), some (fq R), none, none, none, none]) (S' := Pn ns p T) (by simp [c_l_bad_tempos_0, td]) ?_
  have fars : ∀ S, eLc (iRng (aCons (eC (.int 25)) aNil)) (.nm 5) cYes (eTup (aCons (eOp oAdd (eC (.int 1)) (eVar 5)) (aCons (eTup (aCons (eOp oAdd (eC (.int 1)) (eOp oMod (eVar 5) (eC (.int 2)))) (aCons (eC (.int 3)) aNil))) (aCons (eTup (aCons (eOp oAdd (eC (.int 1)) (eOp oMod (eVar 5) (eC (.int 2)))) (aCons (eC (.int 3)) aNil))) aNil)))) [5] [some (.ob 0), some (td ss R), some (.tup (ss.map sd)), some (fq R), none, none, none, none] S = .ok (.lst ((List.range 25).map farD)) S := fun S => by
    refine lc_at (n := 25) (xs := fun j => .int (0 + (j : Nat))) (it := .rng 0 25) (by simp only [iRng_eq, aCons_eq, aNil_eq, eC_eq, bind_ok, g25, if_true]; rfl) rfl (fun E i hi => isRng 0 25 _ i hi) (by decide) (fun j hj => ?_) fun j hj S2 => ?_
    · have : Ay 41 60 9 (.tup ((List.range 25).map farD)) := ayfar
      exact ((this.2 (farD j) (List.mem_map.mpr ⟨j, List.mem_range.mpr hj, rfl⟩)).pl40 (by decide)).le (by decide)
    · refine ⟨_, put_nm _ _ _ _, ?_⟩
      have em : ∀ S, oMod (.int (j : Nat)) (.int 2) S = .ok (.int ((j : Int) % 2)) S := fun S => oMod_int S (by decide)
      simp only [wipeD, List.foldl, List.set, eTup_eq, aCons_eq, aNil_eq, eOp_eq, eC_eq, eVar_s, eVar_0, bind_ok, Int.zero_add, oAdd_int, em, List.length_cons, List.length_nil, z2, z3, if_true]
      rfl
  obtain ⟨fl, hfl⟩ : ∃ fl, fl = D.tup ((List.range 25).map farD) := ⟨_, rfl⟩
  refine ws_step (ρ' := [some (.ob 0), some (td ss R), some (.tup (ss.map sd)), some (fq R), some fl, none, none, none]) (S' := Pn ns p T) (by
    simp only [c_l_bad_tempos_1, sAsg_nm, eB_eq, aCons_eq, aNil_eq, bind_ok, fars, cTuple_lst, ← hfl, sb_ok, List.set]) ?_
  obtain ⟨l1, h1⟩ : ∃ l1 : List D, l1 = [.tup [.tup (ss.map sd), .tup [.int 0, .int 1]], .tup [.tup (ss.map sd ++ [.tup [.int 0, .tup [.int 1, .int 1], .tup [.int 2, .int 1]]]), fq R], .tup [.tup (ss.map sd)], .lst [.tup (ss.map sd), fq R], .non, .tup (ss.map sd), .tup [fl, .tup [.int 3, .int 1]]] := ⟨_, rfl⟩
  refine ws_step (ρ' := [some (.ob 0), some (td ss R), some (.tup (ss.map sd)), some (fq R), some fl, none, some (.lst l1), none]) (S' := Pn ns p T) (by
    have zl : szOk l1.length = true := gd_of (by rw [h1]; simp)
    have cl : ∀ S, cList [td ss R] S = .ok (.lst [.tup (ss.map sd), fq R]) S := fun S => rfl
    simp only [c_l_bad_tempos_2, sAsg_nm, eLst_eq, eTup_eq, eOp_eq, eB_eq, aCons_eq, aNil_eq, eC_eq, eVar_s, eVar_0, bind_ok, List.length_cons, List.length_nil, z1, z2, z3, z7, if_true, oAdd_tup, zs, cl, ← h1, zl, sb_ok, List.set]) ?_
  obtain ⟨l2, h2⟩ : ∃ l2 : List D, l2 = l1 ++ [.tup [.tup [.tup [.int 200001, .tup [.int 1, .int 1], .tup [.int 2, .int 1]]], fq R], .tup [.tup (ss.map sd ++ [.tup [.int 7, fq R, fq R]]), fq R], .tup [.tup (ss.map sd), fq R, fq R]] := ⟨_, rfl⟩
  have n1 : l1.length = 7 := by rw [h1]; rfl
  refine ws_step (ρ' := [some (.ob 0), some (td ss R), some (.tup (ss.map sd)), some (fq R), some fl, none, some (.lst l2), none]) (S' := Pn ns p T) (by
    have za : szOk (l1.length + (0 + 1 + 1 + 1)) = true := gd_of (by omega)
    simp only [c_l_bad_tempos_3, sAsg_nm, eLst_eq, eTup_eq, eOp_eq, eB_eq, aCons_eq, aNil_eq, eC_eq, eVar_s, eVar_0, bind_ok, List.length_cons, List.length_nil, z1, z2, z3, z7, if_true, oAdd_tup, oAdd_lst, zs, za, ← h2, sb_ok, List.set]) ?_
  obtain ⟨l3, h3⟩ : ∃ l3 : List D, l3 = l2 ++ [.tup [.tup [.tup [.int 2, .tup [.int 1, .int 1], .tup [.int 2, .int 1]], .tup [.int 2, .tup [.int 2, .int 1], .tup [.int 3, .int 1]]], fq R], .tup [.tup [.tup [.int 1, .tup [.int 2, .int 4], .tup [.int 1, .int 1]]], fq R]] := ⟨_, rfl⟩
  have n2 : l2.length = 10 := by rw [h2, List.length_append, n1]; rfl
  refine ws_step (ρ' := [some (.ob 0), some (td ss R), some (.tup (ss.map sd)), some (fq R), some fl, none, some (.lst l3), none]) (S' := Pn ns p T) (by
    have za : szOk (l2.length + (0 + 1 + 1)) = true := gd_of (by omega)
    simp only [c_l_bad_tempos_4, sAsg_nm, eLst_eq, eTup_eq, eOp_eq, eB_eq, aCons_eq, aNil_eq, eC_eq, eVar_s, eVar_0, bind_ok, List.length_cons, List.length_nil, z1, z2, z3, z7, if_true, oAdd_tup, oAdd_lst, zs, za, ← h3, sb_ok, List.set]) ?_
  obtain ⟨l4, h4⟩ : ∃ l4 : List D, l4 = l3 ++ [.tup [.tup [.tup [.bl true, .tup [.int 1, .int 1], .tup [.int 2, .int 1]]], fq R], .tup [.tup [.lst [.int 1, .tup [.int 1, .int 1], .tup [.int 2, .int 1]]], fq R], .tup [.lst (ss.map sd), fq R]] := ⟨_, rfl⟩
  have n3 : l3.length = 12 := by rw [h3, List.length_append, n2]; rfl
  refine ws_step (ρ' := [some (.ob 0), some (td ss R), some (.tup (ss.map sd)), some (fq R), some fl, none, some (.lst l4), none]) (S' := Pn ns p T) (by
    have za : szOk (l3.length + (0 + 1 + 1 + 1)) = true := gd_of (by omega)
    simp only [c_l_bad_tempos_5, sAsg_nm, eLst_eq, eTup_eq, eOp_eq, eB_eq, aCons_eq, aNil_eq, eC_eq, eVar_s, eVar_0, bind_ok, List.length_cons, List.length_nil, z1, z2, z3, z7, if_true, oAdd_tup, oAdd_lst, cList_tup, zs, za, ← h4, sb_ok, List.set]) ?_
  have n4 : l4.length = 15 := by rw [h4, List.length_append, n3]; rfl
  have b4 : ∀ d ∈ l4, Bad d := fun d hd => by
    rw [h4, h3, h2, h1, hfl] at hd
    simp only [List.mem_append, List.mem_cons, List.not_mem_nil, or_false] at hd
    rcases hd with (((rfl | rfl | rfl | rfl | rfl | rfl | rfl) | rfl | rfl | rfl) | rfl | rfl) | rfl | rfl | rfl
    · exact bad1 ht
    · exact bad2 ht
    · exact bad3 ht
    · exact bad4 ht
    · exact bad5
    · exact bad6 ht
    · exact bad7
    · exact bad8 ht
    · exact bad9 ht
    · exact bad10 ht
    · exact bad11 ht
    · exact bad12 ht
    · exact bad13 ht
    · exact bad14 ht
    · exact bad15 ht
  simp only [c_l_bad_tempos_6, sRet_eq, eOp_eq, eVar_s, eVar_0, bind_ok, ws_sb, wp_bind]
  obtain ⟨d, S1, e1, ds, p2, rfl, rfl, hb, hl, h5⟩ := (wp_bents (T := T) (ns := ns) (x2 := some (.tup (ss.map sd))) (x3 := some (fq R)) (x4 := some fl) (x5 := none) (x6 := some (.lst l4)) (x7 := none) (Q := fun d S' => ∃ ds p', d = .lst ds ∧ S' = Pn ns p' T ∧ (∀ d ∈ ds, Ay 41 60 10 d) ∧ ds.length = 4 ∧ Pk p' (k + 104)) (E := fun _ _ => False) h hk ht fun ds p' a b c => ⟨ds, p', rfl, rfl, a, b, c⟩).get
  have fil := lc_filter (a := iSeq (eLc (iRng (aCons (eC (.int 4)) aNil)) (.nm 5) cYes (eCall F_l_bent (aCons (eVar 0) (aCons (eVar 1) aNil))) [5])) (it := .vlst (ds.map id)) (t := .nm 7) (c := tTru (eOp oIs (eCall F_is_tempo (aCons (eVar 7) aNil)) (eC (.bl false)))) (e := eVar 7) (own := [7]) (ρ := [some (.ob 0), some (td ss R), some (.tup (ss.map sd)), some (fq R), some fl, none, some (.lst l4), none]) (S := Pn ns p T) (S1 := Pn ns p2 T) (qs := ds) (g := id) (f := id) (k := fun d => !gd (Tm d)) (by simp only [iSeq_eq, e1, bind_ok, List.map_id]) (.inr rfl) (by omega) (fun d hd => ((hb d hd).pl40 (by decide)).le (by decide)) fun d hd S2 => by
    have tm := fun S => is_tempo_any (hb d hd) (by decide) S
    refine ⟨_, put_nm _ _ _ _, ?_⟩
    simp only [wipeD, List.foldl, List.set, tTru_eq, eOp_eq, eCall_eq, aCons_eq, aNil_eq, eC_eq, eVar_s, eVar_0, bind_ok, tm, oIs_bl, isBl_bl, truD_bl, id]
    exact ⟨by cases gd (Tm d) <;> rfl, fun _ => trivial⟩
  rw [fil]
  have za : szOk (l4.length + (ds.filter fun d => !gd (Tm d)).length) = true := gd_of (by have := List.length_filter_le (fun d => !gd (Tm d)) ds; omega)
  simp only [wp_ok, List.map_id, oAdd_lst, za, if_true, ws_rt]
  have bd : ∀ d ∈ l4 ++ ds.filter (fun d => !gd (Tm d)), Bad d := fun d hd => by
    rcases List.mem_append.mp hd with hd | hd
    · exact b4 d hd
    · obtain ⟨m1, m2⟩ := List.mem_filter.mp hd
      refine ⟨hb d m1, fun t => ?_⟩
      rw [gd_of t] at m2
      cases m2
  exact ⟨Pn ns p2 T, [], .lst _, by simp, kp_pen, frz_pl 40 _ (pl_lst ((pls_iff (k := 38)).mpr fun d hd => (bd d hd).pl.le (by decide))), q _ p2 bd (by have := List.length_filter_le (fun d => !gd (Tm d)) ds; rw [List.length_append]; omega) h5⟩
end
end
end Fx
set_option Elab.async false
set_option linter.all false
set_option maxRecDepth 100000
namespace DV
open PySem PySem.Spec PyProof.Rows L2
mutual
def Rw : Nat → D → Prop
  | 0, _ => False
  | k + 1, .tup xs => Rws k xs
  | k + 1, .lst xs => Rws k xs
  | _ + 1, .non => True
  | _ + 1, .bl _ => True
  | _ + 1, .int i => i.natAbs.log2 < 1920
  | _ + 1, .str s => PyData.strOk s = true
  | _ + 1, _ => False
def Rws : Nat → List D → Prop
  | _, [] => True
  | 0, _ :: _ => False
  | k + 1, d :: ds => Rw k d ∧ Rws (k + 1) ds
end
theorem rws_iff {k : Nat} : ∀ {ds : List D}, Rws (k + 1) ds ↔ ∀ d ∈ ds, Rw k d
  | [] => by simp [Rws]
  | d :: ds => by simp [Rws, rws_iff (k := k) (ds := ds)]
mutual
def lD : D → Nat
  | .int i => (PyData.shown (.int i)).length
  | .str s => 10 * s.cps.size + 2
  | .tup xs => lDs xs + 3
  | .lst xs => lDs xs + 3
  | _ => 5
def lDs : List D → Nat
  | [] => 0
  | d :: ds => lD d + 2 + lDs ds
end
theorem lDs_le {w : Nat} : ∀ {ds : List D}, (∀ d ∈ ds, lD d ≤ w) → lDs ds ≤ ds.length * (w + 2)
  | [], _ => by simp [lDs]
  | d :: ds, h => by
    have h1 := h d (by simp)
    have h2 := lDs_le (w := w) (ds := ds) fun x hx => h x (by simp [hx])
    rw [lDs, List.length_cons, Nat.succ_mul]
    omega
mutual
theorem Rw.up : ∀ {k : Nat} {d : D}, Rw k d → Rw (k + 1) d
  | 0, _, h => by simp [Rw] at h
  | k + 1, .tup xs, h => by simp only [Rw] at h ⊢; exact Rws.up h
  | k + 1, .lst xs, h => by simp only [Rw] at h ⊢; exact Rws.up h
  | _ + 1, .non, _ => by simp [Rw]
  | _ + 1, .bl _, _ => by simp [Rw]
  | _ + 1, .int _, h => by simp only [Rw] at h ⊢; exact h
  | _ + 1, .str _, h => by simp only [Rw] at h ⊢; exact h
  | _ + 1, .ob _, h => by simp [Rw] at h
  | _ + 1, .dct _, h => by simp [Rw] at h
  | _ + 1, .dtt _, h => by simp [Rw] at h
  | _ + 1, .ins _ _ _, h => by simp [Rw] at h
  | _ + 1, .exc _, h => by simp [Rw] at h
  | _ + 1, .ro _, h => by simp [Rw] at h
  | _ + 1, .gl _, h => by simp [Rw] at h
theorem Rws.up : ∀ {k : Nat} {ds : List D}, Rws k ds → Rws (k + 1) ds
  | _, [], _ => by simp [Rws]
  | 0, _ :: _, h => by simp [Rws] at h
  | k + 1, d :: ds, h => by
    simp only [Rws] at h ⊢
    exact ⟨h.1.up, h.2.up⟩
end
theorem Rw.le {d : D} {k j : Nat} (h : Rw k d) (hj : k ≤ j) : Rw j d := by
  induction hj with
  | refl => exact h
  | step _ ih => exact ih.up
mutual
theorem rw_py : ∀ {k : Nat} {d : D}, Rw k d → (∀ S, pyOf k S d = some (pyD d)) ∧ (pyD d).showable = true ∧ (pyD d).hasDict = false ∧ (pyD d).depth ≤ k ∧ (pyD d).shown.length ≤ lD d ∧ (pyD d).canLay0 = true ∧ Sok' (pyD d).shown
  | 0, _, h => by simp [Rw] at h
  | k + 1, .tup xs, h => by
    simp only [Rw] at h
    obtain ⟨h1, h2, h3, h4, h5, h7, h8⟩ := rws_py h
    refine ⟨fun S => by simp only [pyOf, h1 S, Option.map_some, pyD], by simpa [pyD, PyData.showable] using h2, by simpa [pyD, PyData.hasDict] using h3, by simp only [pyD, PyData.depth]; omega, ?_, by simpa [pyD, PyData.canLay0] using h7, ?_⟩
    · simp only [pyD]
      rw [PyData.shown]
      have := tupleText_len_le (PyData.shownAll (pyDs xs))
      simp only [lD]
      omega
    · simp only [pyD]
      rw [PyData.shown_tuple]
      refine sok_app (sok_app (sok_of "(") (sok_join (sok_of ", ") _ h8)) ?_
      split <;> exact sok_of _
  | k + 1, .lst xs, h => by
    simp only [Rw] at h
    obtain ⟨h1, h2, h3, h4, h5, h7, h8⟩ := rws_py h
    refine ⟨fun S => by simp only [pyOf, h1 S, Option.map_some, pyD], by simpa [pyD, PyData.showable] using h2, by simpa [pyD, PyData.hasDict] using h3, by simp only [pyD, PyData.depth]; omega, ?_, by simpa [pyD, PyData.canLay0] using h7, ?_⟩
    · simp only [pyD]
      rw [PyData.shown]
      have := listText_len_le (PyData.shownAll (pyDs xs))
      simp only [lD]
      omega
    · simp only [pyD]
      rw [PyData.shown_list]
      exact sok_app (sok_app (sok_of "[") (sok_join (sok_of ", ") _ h8)) (sok_of "]")
  | _ + 1, .non, _ => ⟨fun S => by simp [pyOf, pyD], by simp [pyD, PyData.showable], by simp [pyD, PyData.hasDict], by simp [pyD, PyData.depth], by simp only [pyD, lD]; decide, by simp [pyD, PyData.canLay0], sok_of "None"⟩
  | _ + 1, .bl b, _ => ⟨fun S => by simp [pyOf, pyD], by simp [pyD, PyData.showable], by simp [pyD, PyData.hasDict], by simp [pyD, PyData.depth], by cases b <;> (simp only [pyD, lD]; decide), by simp [pyD, PyData.canLay0], by cases b; exact sok_of "False"; exact sok_of "True"⟩
  | _ + 1, .int i, h => by
    simp only [Rw] at h
    exact ⟨fun S => by simp [pyOf, pyD], by simpa [pyD, PyData.showable] using h, by simp [pyD, PyData.hasDict], by simp [pyD, PyData.depth], by simp only [pyD, lD]; exact Nat.le_refl _, by simp [pyD, PyData.canLay0], by simp only [pyD, PyData.shown]; exact sok_of _⟩
  | _ + 1, .str s, h => by
    simp only [Rw] at h
    have sk := sok_iff.mp h
    refine ⟨fun S => by simp [pyOf, pyD], by simp [pyD, PyData.showable], by simp [pyD, PyData.hasDict], by simp [pyD, PyData.depth], ?_, by simpa [pyD, PyData.canLay0] using h, by simp only [pyD, PyData.shown]; exact sok_repr sk⟩
    have e := StrLaws.reprText_len s (fun c hc => by
      have := sk c hc
      have : (16 : Nat) ^ 8 = 4294967296 := by decide
      omega)
    have e2 : s.length = s.cps.size := rfl
    simp only [pyD, PyData.shown, lD]
    omega
  | _ + 1, .ob _, h => by simp [Rw] at h
  | _ + 1, .dct _, h => by simp [Rw] at h
  | _ + 1, .dtt _, h => by simp [Rw] at h
  | _ + 1, .ins _ _ _, h => by simp [Rw] at h
  | _ + 1, .exc _, h => by simp [Rw] at h
  | _ + 1, .ro _, h => by simp [Rw] at h
  | _ + 1, .gl _, h => by simp [Rw] at h
theorem rws_py : ∀ {k : Nat} {ds : List D}, Rws k ds → (∀ S, pyOf.pyAll (pyOf k S) ds = some (pyDs ds)) ∧ PyData.showableAll (pyDs ds) = true ∧ PyData.hasDictAll (pyDs ds) = false ∧ PyData.depthAll (pyDs ds) ≤ k ∧ ((PyData.shownAll (pyDs ds)).map (·.length)).sum + 2 * (PyData.shownAll (pyDs ds)).length ≤ lDs ds ∧ PyData.canLayAll0 (pyDs ds) = true ∧ ∀ t ∈ PyData.shownAll (pyDs ds), Sok' t
  | _, [], _ => ⟨fun S => by simp [pyOf.pyAll, pyDs], by simp [pyDs, PyData.showableAll], by simp [pyDs, PyData.hasDictAll], by simp [pyDs, PyData.depthAll], by simp [pyDs, PyData.shownAll, lDs], by simp [pyDs, PyData.canLayAll0], by simp [pyDs, PyData.shownAll]⟩
  | 0, _ :: _, h => by simp [Rws] at h
  | k + 1, d :: ds, h => by
    simp only [Rws] at h
    obtain ⟨a1, a2, a3, a4, a5, a7, a8⟩ := rw_py h.1.up
    obtain ⟨_, _, _, a4', _⟩ := rw_py h.1
    obtain ⟨b1, b2, b3, b4, b5, b7, b8⟩ := rws_py h.2
    refine ⟨fun S => by simp only [pyOf.pyAll, a1 S, b1 S, pyDs], by simp [pyDs, PyData.showableAll, a2, b2], by simp [pyDs, PyData.hasDictAll, a3, b3], by simp only [pyDs, PyData.depthAll]; omega, by simp only [pyDs, PyData.shownAll, lDs, List.map_cons, List.sum_cons, List.length_cons]; omega, by simp [pyDs, PyData.canLayAll0, a7, b7], ?_⟩
    intro t ht
    simp only [pyDs, PyData.shownAll, List.mem_cons] at ht
    rcases ht with rfl | ht
    · exact a8
    · exact b8 t ht
end
/-- repr of data -/
theorem repr_okW {d : D} (h : Rw 40 d) (hw : lD d ≤ 1000000) (S : Sto) : cRepr [d] S = .ok (.str (pyD d).shown) S := by
  obtain ⟨h1, h2, h3, h4, h5, h7, h8⟩ := rw_py h
  have g : reprOk (pyD d) = true := gd_of ⟨h2, h3, by omega, by omega⟩
  simp only [cRepr, h1 S, g, if_true]
theorem repr_strW {d : D} (h : Rw 40 d) : PyData.strOk (pyD d).shown = true := sok_iff.mpr (rw_py h).2.2.2.2.2.2
theorem lD_int {i : Int} {k : Nat} (hk : 1 ≤ k) (h : i.natAbs < 10 ^ k) : lD (.int i) ≤ k + 1 := by
  have e := int_text_length_le10 hk h
  simp only [lD, PyData.shown, PySem.ofString_length]
  exact e
end DV
set_option Elab.async false
set_option linter.all false
set_option maxRecDepth 100000
set_option exponentiation.threshold 20000
namespace Fx
open PySem L2 DV
structure Cor where
  x : Rat
  y : Rat
def cd (c : Cor) : D := .tup [fq c.x, fq c.y]
structure Pie where
  n : Int
  take : Str
  at_ : Int
  many : Int
  way : Str
  start : Rat
  speed : Rat
  shape : List Cor
def pd (p : Pie) : D := .tup [.int p.n, .str p.take, .int p.at_, .int p.many, .str p.way, fq p.start, fq p.speed, .tup (p.shape.map cd)]
structure Lan where
  name : Str
  gain : Rat
  silent : Int
  ps : List Pie
def ld (l : Lan) : D := .tup [.str l.name, fq l.gain, .int l.silent, .tup (l.ps.map pd)]
structure Tak where
  name : Str
  tones : List Int
structure She where
  ss : List St
  rest : Rat
  takes : List Tak
  lanes : List Lan
/-- a right name -/
structure Nm (s : Str) : Prop where
  l1 : 1 ≤ s.length
  l8 : s.length ≤ 8
  asc : Txt.isascii s = true
  alp : Txt.isalpha s = true
  low : Txt.islower s = true
  ok : PyData.strOk s = true
/-- a right line of corners -/
structure Lin (B : Nat) (cs : List Cor) : Prop where
  bits : ∀ c ∈ cs, Bq B c.x ∧ Bq B c.y
  nn : ∀ c ∈ cs, 0 ≤ c.y
  rise : ∀ (i : Nat) (h : i + 1 < cs.length), cs[i].x < cs[i + 1].x
  bend : ∀ (i : Nat) (h : i + 2 < cs.length), ¬ (cs[i + 2].y - cs[i + 1].y) * (cs[i + 1].x - cs[i].x) = (cs[i + 1].y - cs[i].y) * (cs[i + 2].x - cs[i + 1].x)
structure Shok (B : Nat) (cs : List Cor) : Prop where
  l2 : 2 ≤ cs.length
  l12 : cs.length ≤ 12
  lin : Lin B cs
structure Pok (B : Nat) (p : Pie) : Prop where
  bb : B ≤ 1000
  n1 : 1 ≤ p.n
  n2 : p.n ≤ 99999
  nm : Nm p.take
  a1 : 0 ≤ p.at_
  a2 : p.at_ ≤ 100000
  m1 : 1 ≤ p.many
  m2 : p.many ≤ 100000 - p.at_
  way : p.way = "free" ∨ p.way = "bound"
  s0 : 0 ≤ p.start
  v0 : 0 < p.speed
  bs : Bq B p.start
  bv : Bq B p.speed
  sh : Shok B p.shape
  first : ∀ h : 0 < p.shape.length, p.shape[0].x = 0
  last : ∀ h : p.shape ≠ [], (p.shape.getLast h).x = (p.many : Rat)
structure Lok (B : Nat) (l : Lan) : Prop where
  nm : Nm l.name
  g0 : 0 ≤ l.gain
  bg : Bq B l.gain
  s : l.silent = 0 ∨ l.silent = 1
  ps : ∀ p ∈ l.ps, Pok B p
/-- all pieces, lane by lane -/
def She.all (s : She) : List Pie := s.lanes.flatMap Lan.ps
section
end
end Fx
set_option Elab.async false
set_option linter.all false
set_option maxRecDepth 100000
set_option exponentiation.threshold 20000
namespace Fx
open PySem L2 DV
section
end
end Fx
set_option Elab.async false
set_option linter.all false
set_option maxRecDepth 100000
set_option exponentiation.threshold 20000
namespace Fx
open PySem PySem.Spec L2 DV
section
end
end Fx
set_option Elab.async false
set_option linter.all false
set_option maxRecDepth 100000
namespace DV
open PySem PySem.Spec L2
end DV
set_option Elab.async false
set_option linter.all false
set_option maxRecDepth 100000
set_option exponentiation.threshold 20000
namespace Fx
open PySem PySem.Spec L2 DV
section
variable {B : Nat} {S : Sto}
structure Row where
  k : Nat
  j : Nat
  p : Pie
def rd (r : Row) : D := .tup [.int (r.k : Nat), .int (r.j : Nat), pd r.p]
end
end Fx
set_option Elab.async false
set_option linter.all false
set_option maxRecDepth 100000
set_option exponentiation.threshold 20000
namespace Fx
open PySem PySem.Spec L2 DV
section
end
end Fx
set_option Elab.async false
set_option linter.all false
set_option maxRecDepth 100000
set_option exponentiation.threshold 20000
namespace Fx
open PySem PySem.Spec L2 DV
end Fx
set_option Elab.async false
set_option linter.all false
set_option maxRecDepth 100000
set_option exponentiation.threshold 20000
namespace Fx
open PySem PySem.Spec L2 DV
section
end
end Fx
set_option Elab.async false
set_option linter.all false
set_option maxRecDepth 100000
set_option exponentiation.threshold 20000
namespace Fx
open PySem PySem.Spec L2 DV
section
end
end Fx
set_option Elab.async false
set_option linter.all false
set_option maxRecDepth 100000
set_option exponentiation.threshold 20000
namespace Fx
open PySem PySem.Spec L2 DV
section
end
end Fx
set_option Elab.async false
set_option linter.all false
set_option maxRecDepth 100000
set_option exponentiation.threshold 20000
namespace Fx
open PySem PySem.Spec L2 DV
section
end
end Fx
set_option Elab.async false
set_option linter.all false
set_option maxRecDepth 100000
set_option exponentiation.threshold 20000
namespace Fx
open PySem PySem.Spec L2 DV
section
end
section
end
end Fx
set_option Elab.async false
set_option linter.all false
set_option maxRecDepth 100000
set_option exponentiation.threshold 20000
namespace Fx
open PySem PySem.Spec L2 DV
section
end
end Fx
set_option Elab.async false
set_option linter.all false
set_option maxRecDepth 100000
set_option exponentiation.threshold 20000
namespace Fx
open PySem PySem.Spec L2 DV
section
end
end Fx
set_option Elab.async false
set_option linter.all false
set_option maxRecDepth 100000
set_option exponentiation.threshold 20000
namespace DV
open PySem PySem.Spec L2
/-- the lists behind b, by number -/
def refs (b n : Nat) : List D := (List.range n).map fun j => .ob (b + j)
/-- the outer list, and the inner ones behind it -/
def Ll (S : Sto) (gs : List (List D)) : Sto := S ++ (.lst (refs (S.length + 1) gs.length) :: gs.map O.lst)
end DV
set_option Elab.async false
set_option linter.all false
set_option maxRecDepth 100000
namespace Fx
open PySem PySem.Spec L2 DV
end Fx
set_option Elab.async false
set_option linter.all false
set_option maxRecDepth 100000
set_option exponentiation.threshold 20000
namespace Fx
open PySem PySem.Spec L2 DV
section
variable {ns : List Int} {p : Int × Int} {T : Sto} {k n m : Nat} {N : Pq}
/-- the store in which the lanes' lists stand -/
def Gl (ns : List Int) (p : Int × Int) (T : Sto) (gs : List (List Pie)) : Sto := Ll (Pn ns p T) (gs.map fun g => g.map pd)
end
end Fx
set_option Elab.async false
set_option linter.all false
set_option maxRecDepth 100000
set_option exponentiation.threshold 20000
namespace Fx
open PySem PySem.Spec L2 DV
section
end
end Fx
set_option Elab.async false
set_option linter.all false
set_option maxRecDepth 100000
set_option exponentiation.threshold 20000
namespace Fx
open PySem PySem.Spec L2 DV
section
end
end Fx
set_option Elab.async false
set_option linter.all false
set_option maxRecDepth 100000
set_option exponentiation.threshold 20000
namespace Fx
open PySem PySem.Spec L2 DV
theorem Lin.mono {A B : Nat} {cs : List Cor} (h : Lin A cs) (hm : A ≤ B) : Lin B cs := ⟨fun c hc => ⟨(h.bits c hc).1.mono hm, (h.bits c hc).2.mono hm⟩, h.nn, h.rise, h.bend⟩
theorem Pok.mono {A B : Nat} {P : Pie} (h : Pok A P) (hm : A ≤ B) (hB : B ≤ 1000) : Pok B P := ⟨hB, h.n1, h.n2, h.nm, h.a1, h.a2, h.m1, h.m2, h.way, h.s0, h.v0, h.bs.mono hm, h.bv.mono hm, ⟨h.sh.l2, h.sh.l12, h.sh.lin.mono hm⟩, h.first, h.last⟩
theorem Lok.mono {A B : Nat} {l : Lan} (h : Lok A l) (hm : A ≤ B) (hB : B ≤ 1000) : Lok B l := ⟨h.nm, h.g0, h.bg.mono hm, h.s, fun P hP => (h.ps P hP).mono hm hB⟩
section
end
end Fx
set_option Elab.async false
set_option linter.all false
set_option maxRecDepth 100000
namespace Fx
open PySem PySem.Spec L2 DV
section
end
end Fx
set_option Elab.async false
set_option linter.all false
set_option maxRecDepth 100000
namespace Fx
open PySem PySem.Spec PyProof.Rows L2 DV
def Se : Nat → D → Prop
  | 0, _ => False
  | k + 1, .tup xs => xs.length ≤ 1000000 ∧ ∀ d ∈ xs, Se k d
  | k + 1, .lst xs => xs.length ≤ 1000000 ∧ ∀ d ∈ xs, Se k d
  | _ + 1, .non => True
  | _ + 1, .bl _ => True
  | _ + 1, .int _ => True
  | _ + 1, .str s => PyData.strOk s = true
  | _ + 1, _ => False
theorem Se.up : ∀ {k : Nat} {d : D}, Se k d → Se (k + 1) d
  | 0, _, h => by simp [Se] at h
  | k + 1, .tup xs, h => by simp only [Se] at h ⊢; exact ⟨h.1, fun d hd => (h.2 d hd).up⟩
  | k + 1, .lst xs, h => by simp only [Se] at h ⊢; exact ⟨h.1, fun d hd => (h.2 d hd).up⟩
  | _ + 1, .non, _ => by simp [Se]
  | _ + 1, .bl _, _ => by simp [Se]
  | _ + 1, .int _, _ => by simp [Se]
  | _ + 1, .str _, h => by simp only [Se] at h ⊢; exact h
  | _ + 1, .ob _, h => by simp [Se] at h
  | _ + 1, .dct _, h => by simp [Se] at h
  | _ + 1, .dtt _, h => by simp [Se] at h
  | _ + 1, .ins _ _ _, h => by simp [Se] at h
  | _ + 1, .exc _, h => by simp [Se] at h
  | _ + 1, .ro _, h => by simp [Se] at h
  | _ + 1, .gl _, h => by simp [Se] at h
theorem Se.le {d : D} {k j : Nat} (h : Se k d) (hj : k ≤ j) : Se j d := by
  induction hj with
  | refl => exact h
  | step _ ih => exact ih.up
theorem se_fq {q : Rat} {k : Nat} : Se (k + 2) (fq q) := by
  simp only [fq, Se, List.mem_cons, List.not_mem_nil, or_false]
  exact ⟨by simp, fun d hd => by rcases hd with rfl | rfl <;> simp [Se]⟩
theorem same_okD : ∀ (k : Nat) {d : D}, Se k d → ∀ S, R_l_same k [d, d] S = .ok (.bl true) S
  | 0, d, h, S => by simp [Se] at h
  | k + 1, d, h, S => by
    have ih := fun (x : D) (hx : Se k x) S => same_okD k hx S
    have each : ∀ xs : List D, (∀ d ∈ xs, Se k d) → ∀ i, i < xs.length → Se k (xs[i]?.getD .non) := by
      intro xs hs i hi
      rw [List.getElem?_eq_getElem hi]
      exact hs _ (List.getElem_mem hi)
    show runF 4 2 (b_l_same (R_l_same k)) [d, d] S = _
    refine run_eq0 ?_ (by simp [Pl])
    cases d with
    | non => simp [b_l_same, sSeq, c_l_same_0, c_l_same_1]
    | bl b => cases b <;> simp [b_l_same, sSeq, c_l_same_0, c_l_same_1, c_l_same_2, c_l_same_3, c_l_same_4]
    | int i => simp [b_l_same, sSeq, c_l_same_0, c_l_same_1, c_l_same_2, c_l_same_3, c_l_same_4]
    | str s => 
      simp only [Se] at h
      simp [b_l_same, sSeq, c_l_same_0, c_l_same_1, c_l_same_2, c_l_same_3, c_l_same_4, oEq_str h]
    | tup xs =>
      simp only [Se] at h
      have lc := fun S => lc_at (a := iZip (aCons (eVar 0) (aCons (eVar 1) aNil))) (t := .tp [(.nm 2), (.nm 3)]) (e := eCall (R_l_same k) (aCons (eVar 2) (aCons (eVar 3) aNil))) (own := [2, 3]) (ρ := [some (.tup xs), some (.tup xs), none, none]) (S := S) (S1 := S) (it := .zipT xs xs) (n := xs.length) (xs := fun i => .tup [xs[i]?.getD .non, xs[i]?.getD .non]) (f := fun _ => .bl true) (by simp) rfl (fun E i hi => isZipT xs xs _ rfl i hi) h.1 (fun i hi => by simp [Pl]) (fun i hi S2 => by
        refine ⟨[some (.tup xs), some (.tup xs), some (xs[i]?.getD .non), some (xs[i]?.getD .non)], by simp [wipeD], ?_⟩
        have := ih _ (each xs h.2 i hi) S2
        simp only [eCall_eq, aCons_eq, aNil_eq, eVar_s, eVar_0, bind_ok, this])
      unfold b_l_same
      refine seq_rt ?_ _
      have := lc S
      simp [c_l_same_0, sSeq, this, all_bl]
    | lst xs =>
      simp only [Se] at h
      have lc := fun S => lc_at (a := iZip (aCons (eVar 0) (aCons (eVar 1) aNil))) (t := .tp [(.nm 2), (.nm 3)]) (e := eCall (R_l_same k) (aCons (eVar 2) (aCons (eVar 3) aNil))) (own := [2, 3]) (ρ := [some (.lst xs), some (.lst xs), none, none]) (S := S) (S1 := S) (it := .zipV xs xs) (n := xs.length) (xs := fun i => .tup [xs[i]?.getD .non, xs[i]?.getD .non]) (f := fun _ => .bl true) (by simp) rfl (fun E i hi => isZipV xs xs _ rfl i hi) h.1 (fun i hi => by simp [Pl]) (fun i hi S2 => by
        refine ⟨[some (.lst xs), some (.lst xs), some (xs[i]?.getD .non), some (xs[i]?.getD .non)], by simp [wipeD], ?_⟩
        have := ih _ (each xs h.2 i hi) S2
        simp only [eCall_eq, aCons_eq, aNil_eq, eVar_s, eVar_0, bind_ok, this])
      unfold b_l_same
      refine seq_rt ?_ _
      have := lc S
      simp [c_l_same_0, sSeq, this, all_bl]
    | _ => simp [Se] at h
end Fx
set_option Elab.async false
set_option linter.all false
set_option maxRecDepth 100000
set_option exponentiation.threshold 20000
namespace Fx
open PySem PySem.Spec L2 DV
theorem lD_tup (xs : List D) : lD (.tup xs) = lDs xs + 3 := by rw [lD]
theorem lDs_cons (d : D) (ds : List D) : lDs (d :: ds) = lD d + 2 + lDs ds := by rw [lDs]
theorem lDs_nil : lDs [] = 0 := by rw [lDs]
theorem rw_int {i : Int} {B k : Nat} (h : i.natAbs < 2 ^ B) (hB : B ≤ 1900) : Rw (k + 1) (.int i) := by
  show i.natAbs.log2 < 1920
  by_cases h0 : i.natAbs = 0
  · rw [h0]; decide
  · exact (Nat.log2_lt h0).mpr (pow_mono h (by omega))
theorem rw_fq {x : Rat} {B k : Nat} (h : Bq B x) (hB : B ≤ 1900) : Rw (k + 3) (fq x) := by
  simp only [fq, Rw, Rws, and_true]
  exact ⟨rw_int (k := 0) h.1 hB, rw_int (k := 0) (by rw [den_abs]; exact h.2) hB⟩
theorem ten_of {x k : Nat} (h : x < 2 ^ (3 * k)) : x < 10 ^ k := by
  have : (2 : Nat) ^ (3 * k) ≤ 10 ^ k := by
    rw [Nat.pow_mul]
    exact Nat.pow_le_pow_left (by decide) k
  omega
theorem ld_fq {x : Rat} (h : Bq 600 x) : lD (fq x) ≤ 410 := by
  have a := lD_int (i := x.num) (k := 200) (by decide) (ten_of h.1)
  have b := lD_int (i := (x.den : Int)) (k := 200) (by decide) (by rw [den_abs]; exact ten_of h.2)
  have e : lD (fq x) = lD (.int x.num) + 2 + (lD (.int (x.den : Int)) + 2 + 0) + 3 := by simp only [fq, lD_tup, lDs_cons, lDs_nil]
  omega
theorem ld_small {i : Int} (h : i.natAbs < 1000000) : lD (.int i) ≤ 7 := lD_int (k := 6) (by decide) h
section
variable {B k : Nat}
theorem rw_td {ss : List St} {r : Rat} (h : Tok B ss r) (hB : B ≤ 1000) : Rw (k + 9) (td ss r) := by
  simp only [td, Rw, Rws, and_true]
  refine ⟨rws_iff.mpr fun d hd => ?_, rw_fq h.br (by omega)⟩
  obtain ⟨s, hs, rfl⟩ := List.mem_map.mp hd
  have ok := h.all s hs
  have m1 := ok.m1
  have m2 := ok.m2
  simp only [sd, Rw, Rws, and_true]
  exact ⟨rw_int (k := 0) (B := 20) (by omega) (by decide), rw_fq ok.bf (by omega), rw_fq ok.bl (by omega)⟩
theorem ld_td {ss : List St} {r : Rat} (h : Tok B ss r) (hB : B ≤ 600) : lD (td ss r) ≤ 21000 := by
  have n24 := h.n24
  have a := lDs_le (w := 840) (ds := ss.map sd) fun d hd => by
    obtain ⟨s, hs, rfl⟩ := List.mem_map.mp hd
    have ok := h.all s hs
    have m1 := ok.m1
    have m2 := ok.m2
    have a1 := ld_small (i := s.m) (by omega)
    have a2 := ld_fq (ok.bf.mono hB)
    have a3 := ld_fq (ok.bl.mono hB)
    simp only [sd, lD_tup, lDs_cons, lDs_nil]
    omega
  have b := ld_fq (h.br.mono hB)
  rw [List.length_map] at a
  have c : ss.length * (840 + 2) ≤ 24 * (840 + 2) := Nat.mul_le_mul_right _ n24
  simp only [td, lD_tup, lDs_cons, lDs_nil]
  omega
theorem se_tup {xs : List D} {k : Nat} (hl : xs.length ≤ 1000000) (h : ∀ d ∈ xs, Se k d) : Se (k + 1) (.tup xs) := ⟨hl, h⟩
theorem se_str {s : Str} {k : Nat} (h : PyData.strOk s = true) : Se (k + 1) (.str s) := h
end
end Fx
set_option Elab.async false
set_option linter.all false
set_option maxRecDepth 100000
set_option exponentiation.threshold 20000
namespace Fx
open PySem L2 DV
section
variable {B : Nat} {s t : St} {k a b : Int} {r : Rat} {ss xs ys acc : List St}
/-- the length from which a step goes on -/
def lf (s : St) (k : Int) : Rat := s.f + rise s * (k : Rat)
theorem Sok.up {A : Nat} (h : Sok A s) (hm : A ≤ B) (hB : B ≤ 1000) : Sok B s := ⟨hB, h.m1, h.m2, h.f0, h.l0, h.bf.mono hm, h.bl.mono hm⟩
end
section
end
end Fx
set_option Elab.async false
set_option linter.all false
set_option maxRecDepth 100000
set_option exponentiation.threshold 20000
namespace Fx
open PySem L2 DV
section
end
end Fx
set_option Elab.async false
set_option linter.all false
set_option maxRecDepth 100000
set_option exponentiation.threshold 20000
namespace Fx
open PySem L2 DV
section
variable {B n : Nat} {s t : St} {k a b e : Int} {r : Rat} {ss xs ys acc : List St} {S : Sto}
theorem map_dropLast {α β : Type} (f : α → β) (xs : List α) : (xs.map f).dropLast = xs.dropLast.map f := by
  rw [List.dropLast_eq_take, List.dropLast_eq_take, List.map_take, List.length_map]
end
end Fx
set_option Elab.async false
set_option linter.all false
set_option maxRecDepth 100000
set_option exponentiation.threshold 20000
namespace Fx
open PySem L2 DV
section
end
end Fx
set_option Elab.async false
set_option linter.all false
set_option maxRecDepth 100000
set_option exponentiation.threshold 20000
namespace Fx
open PySem L2 DV
theorem pen_ok (ns : List Int) : ∃ ms, F_l_pen [.ro ns] [] = .ok (.ob 0) (Pn ms (0, 0) []) := by
  have z3 : szOk (0 + 1 + 1 + 1) = true := gd_of (by decide)
  refine ⟨cutD ns none (some 63), ?_⟩
  refine eq_of_wp (wp_runK ?_)
  show Ws (b_l_pen [some (.ro ns)] []) _
  simp only [b_l_pen, c_l_pen_0, sRet_eq, eLstS_eq, aCons_eq, aNil_eq, eB_eq, eRo, eVar_0, pNo_eq, pAt_eq, eC_eq, bind_ok, cList_lst, List.length_cons, List.length_nil, z3, if_true, sb_ok, ws_rt]
  exact ⟨trivial, rfl⟩
section
variable {ns ms : List Int} {p : Int × Int} {k : Nat} {Q : D → Sto → Prop} {E : Str → Sto → Prop} {N : Pq}
theorem iRng_ok {n : Nat} {i : Int} (hi : i = n) (hn : n ≤ 1000) (ρ : Lc) (S : Sto) : iRng (aCons (eC (.int i)) aNil) ρ S = .ok (.rng 0 n) S := by
  subst hi
  have g : gd (-(2 ^ 62) ≤ (n : Int) ∧ (n : Int) < 2 ^ 62) = true := gd_of (by omega)
  simp only [iRng_eq, aCons_eq, aNil_eq, eC_eq, bind_ok, g, if_true]
  rfl
end
end Fx
set_option Elab.async false
set_option linter.all false
set_option maxRecDepth 100000
set_option exponentiation.threshold 20000
namespace Fx
open PySem L2 DV
theorem lc_filterS {α : Type} {a : IF} {it : Itd} {t : Tg} {c : TF} {e : EF} {own : List Nat} {ρ : Lc} {S S1 : Sto} {qs : List α} {g f : α → D} {k : α → Bool} (ha : a ρ S = .ok it S1) (hit : it = .tup (qs.map g) ∨ it = .vlst (qs.map g))
    (hq : qs.length ≤ 1000000) (hf : ∀ q ∈ qs, Pl 38 (f q))
    (step : ∀ q ∈ qs, ∀ acc, ∃ ρ1, t.put (g q) (wipeD ρ own) (S1 ++ [.lst acc]) = some ρ1 ∧ c ρ1 (S1 ++ [.lst acc]) = .ok (k q) (S1 ++ [.lst acc]) ∧ (k q = true → e ρ1 (S1 ++ [.lst acc]) = .ok (f q) (S1 ++ [.lst acc]))) :
    eLc a t c e own ρ S = .ok (.lst ((qs.filter k).map f)) S1 := by
  refine eq_of_wp (wp_lc (n := qs.length) (xs := fun i => (qs.map g)[i]?.getD .non) ha (fun i acc T => T = S1 ∧ acc = ((qs.take i).filter k).map f) ?_ ?_ hq (by simp) ?_ ?_ ?_)
  · rcases hit with rfl | rfl <;> simp [Itd.size]
  · intro i acc T hi _
    rcases hit with rfl | rfl
    · simpa using DV.isTup (qs.map g) (T ++ [.lst acc]) i (by simpa using hi)
    · simpa using isVl (qs.map g) (T ++ [.lst acc]) i (by simpa using hi)
  · rintro i acc T ⟨rfl, rfl⟩
    refine ⟨.rfl', ?_, pls_iff.mpr ?_⟩
    · rw [List.length_map]
      exact Nat.le_trans (List.length_filter_le _ _) (by simp; omega)
    · intro d hd
      obtain ⟨q, hq, rfl⟩ := List.mem_map.mp hd
      exact hf q (List.mem_of_mem_take (List.mem_filter.mp hq).1)
  · rintro i acc T hi ⟨rfl, rfl⟩
    obtain ⟨ρ1, e1, e2, e3⟩ := step qs[i] (List.getElem_mem hi) (((qs.take i).filter k).map f)
    refine ⟨ρ1, by simpa [hi] using e1, ?_⟩
    rw [e2]
    have tk : qs.take (i + 1) = qs.take i ++ [qs[i]] := by rw [List.take_succ]; simp [hi]
    refine ⟨T, rfl, rfl, fun h => ?_, fun h => ⟨rfl, ?_⟩⟩
    · rw [e3 h]
      refine ⟨T, rfl, rfl, rfl, ?_⟩
      rw [tk, List.filter_append, List.map_append]
      simp [h]
    · rw [tk, List.filter_append, List.map_append]
      simp [h]
  · rintro acc T ⟨rfl, rfl⟩
    simp
def cand (m : Int) (f l : Rat) (j : Nat) : St := ⟨m, f, l + ((j : Int) : Rat)⟩
theorem cand_rise {m : Int} {f l : Rat} {i j : Nat} (hm : 1 ≤ m) (h : rise (cand m f l i) = rise (cand m f l j)) : i = j := by
  have h' : (l + ((i : Int) : Rat) - f) / (m : Rat) = (l + ((j : Int) : Rat) - f) / (m : Rat) := h
  have m0 : (0 : Rat) < (m : Rat) := cpos (by omega)
  have e : ((i : Int) : Rat) = ((j : Int) : Rat) := by grind
  have := Rat.intCast_inj.mp e
  omega
theorem cand_l {m : Int} {f l R : Rat} {i j : Nat} (h : (cand m f l i).l = R) (h2 : (cand m f l j).l = R) : i = j := by
  have h' : l + ((i : Int) : Rat) = R := h
  have h2' : l + ((j : Int) : Rat) = R := h2
  have e : ((i : Int) : Rat) = ((j : Int) : Rat) := by grind
  have := Rat.intCast_inj.mp e
  omega
/-- one of three is neither as the rest nor goes on -/
theorem cand_some {m : Int} {f l R : Rat} {k1 k2 : St → Bool} (hm : 1 ≤ m) (h1 : ∀ c, k1 c = false → c.l = R) {x : Rat} (h2 : ∀ c, k2 c = false → rise c = x) :
    ∃ (c : St) (cs : List St), ((((List.range 3).map (cand m f l)).filter k1).filter k2) = c :: cs ∧ (∃ j, j < 3 ∧ c = cand m f l j) ∧ k1 c = true ∧ k2 c = true := by
  have a1 : ∀ i j, k1 (cand m f l i) = false → k1 (cand m f l j) = false → i = j := fun i j a b => cand_l (h1 _ a) (h1 _ b)
  have a2 : ∀ i j, k2 (cand m f l i) = false → k2 (cand m f l j) = false → i = j := fun i j a b => cand_rise hm ((h2 _ a).trans (h2 _ b).symm)
  have ex : ∃ j, j < 3 ∧ k1 (cand m f l j) = true ∧ k2 (cand m f l j) = true := by
    by_cases c0 : k1 (cand m f l 0) = true ∧ k2 (cand m f l 0) = true
    · exact ⟨0, by decide, c0⟩
    by_cases c1 : k1 (cand m f l 1) = true ∧ k2 (cand m f l 1) = true
    · exact ⟨1, by decide, c1⟩
    by_cases c2 : k1 (cand m f l 2) = true ∧ k2 (cand m f l 2) = true
    · exact ⟨2, by decide, c2⟩
    exfalso
    have x01 := a1 0 1
    have x02 := a1 0 2
    have x12 := a1 1 2
    have y01 := a2 0 1
    have y02 := a2 0 2
    have y12 := a2 1 2
    revert x01 x02 x12 y01 y02 y12 c0 c1 c2
    cases k1 (cand m f l 0) <;> cases k1 (cand m f l 1) <;> cases k1 (cand m f l 2) <;> cases k2 (cand m f l 0) <;> cases k2 (cand m f l 1) <;> cases k2 (cand m f l 2) <;> simp
  obtain ⟨j, hj, e1, e2⟩ := ex
  have mem : cand m f l j ∈ ((((List.range 3).map (cand m f l)).filter k1).filter k2) := List.mem_filter.mpr ⟨List.mem_filter.mpr ⟨List.mem_map.mpr ⟨j, List.mem_range.mpr hj, rfl⟩, e1⟩, e2⟩
  obtain ⟨c, cs, e⟩ := List.exists_cons_of_ne_nil (List.ne_nil_of_mem mem)
  have mc : c ∈ ((((List.range 3).map (cand m f l)).filter k1).filter k2) := by rw [e]; simp
  obtain ⟨mc1, m2⟩ := List.mem_filter.mp mc
  obtain ⟨mc2, m1⟩ := List.mem_filter.mp mc1
  obtain ⟨i, hi, rfl⟩ := List.mem_map.mp mc2
  exact ⟨_, cs, e, ⟨i, List.mem_range.mp hi, rfl⟩, m1, m2⟩
end Fx
namespace Lk08
open PySem L2 DV Fx
section
variable {ns : List Int} {p : Int × Int} {T : Sto} {k : Nat} {Q : D → Sto → Prop} {E : Str → Sto → Prop} {R : Rat} {N : Pq} {ss : List Fx.St} {n w j : Nat} {d : D}
theorem oAdd_lst' {xs ys : List D} {S : Sto} (h : szOk (xs.length + ys.length) = true) : oAdd (.lst xs) (.lst ys) S = .ok (.lst (xs ++ ys)) S := by rw [oAdd_lst, if_pos h]
theorem word_tempo (S : Sto) : F_l_word [.exc "NoTempo"] S = .ok (.str "tempo") S := by
  have z3 : szOk (0 + 1 + 1 + 1) = true := gd_of (by decide)
  have z4 : szOk (0 + 1 + 1 + 1 + 1) = true := gd_of (by decide)
  have z11 : szOk (0 + 1 + 1 + 1 + 1 + 1 + 1 + 1 + 1 + 1 + 1 + 1) = true := gd_of (by decide)
  have z12 : szOk (0 + 1 + 1 + 1 + 1 + 1 + 1 + 1 + 1 + 1 + 1 + 1 + 1) = true := gd_of (by decide)
  have f1 : tabX [("NoFraction", false), ("NoStep", false), ("NoTempo", false)] "NoTempo" = some false := by decide +kernel
  have f2 : tabX [("NoFraction", true), ("NoStep", false), ("NoTempo", false)] "NoTempo" = some false := by decide +kernel
  have f3 : tabX [("NoFraction", false), ("NoStep", true), ("NoTempo", false)] "NoTempo" = some false := by decide +kernel
  have f4 : tabX [("NoFraction", false), ("NoStep", false), ("NoTempo", true)] "NoTempo" = some true := by decide +kernel
  have f5 : tabX [("NoFraction", true), ("NoStep", true), ("NoTempo", true)] "NoTempo" = some true := by decide +kernel
  unfold F_l_word b_l_word
  refine run_eq0 ?_ (by simp only [Pl])
  show sSeq c_l_word_0 _ [some (.exc "NoTempo"), none, none] S = _
  refine (seq_nx (ρ' := [some (.exc "NoTempo"), some (.lst [.str "full", .str "leaned", .str "count", .str "deed", .str "far", .str "fraction", .str "glue", .str "lane", .str "level", .str "long", .str "moment", .str "name"]), none]) (S' := S) (by simp only [c_l_word_0, sAsg_nm, eOp_eq, eLst_eq, eIsX, aCons_eq, aNil_eq, eC_eq, eVar_s, eVar_0, bind_ok, List.length_cons, List.length_nil, f1, f2, f3, f4, f5, z12, if_true, sb_ok, List.set]) _).trans ?_
  have a1 : ∀ S, oAdd (.lst [.str "full", .str "leaned", .str "count", .str "deed", .str "far", .str "fraction", .str "glue", .str "lane", .str "level", .str "long", .str "moment", .str "name"]) (.lst [.str "number", .str "piece", .str "place", .str "rank", .str "row", .str "sheet", .str "side", .str "step", .str "take", .str "tempo", .str "text"]) S = .ok (.lst [.str "full", .str "leaned", .str "count", .str "deed", .str "far", .str "fraction", .str "glue", .str "lane", .str "level", .str "long", .str "moment", .str "name", .str "number", .str "piece", .str "place", .str "rank", .str "row", .str "sheet", .str "side", .str "step", .str "take", .str "tempo", .str "text"]) S := fun S => by
    exact oAdd_lst' (gd_of (by decide))
  refine (seq_nx (ρ' := [some (.exc "NoTempo"), some (.lst [.str "full", .str "leaned", .str "count", .str "deed", .str "far", .str "fraction", .str "glue", .str "lane", .str "level", .str "long", .str "moment", .str "name", .str "number", .str "piece", .str "place", .str "rank", .str "row", .str "sheet", .str "side", .str "step", .str "take", .str "tempo", .str "text"]), none]) (S' := S) (by simp only [c_l_word_1, sAsg_nm, eOp_eq, eLst_eq, eIsX, aCons_eq, aNil_eq, eC_eq, eVar_s, eVar_0, bind_ok, List.length_cons, List.length_nil, f1, f2, f3, f4, f5, z11, a1, if_true, sb_ok, List.set]) _).trans ?_
  have a2 : ∀ S, oAdd (.lst [.str "full", .str "leaned", .str "count", .str "deed", .str "far", .str "fraction", .str "glue", .str "lane", .str "level", .str "long", .str "moment", .str "name", .str "number", .str "piece", .str "place", .str "rank", .str "row", .str "sheet", .str "side", .str "step", .str "take", .str "tempo", .str "text"]) (.lst [.str "version", .str "taken", .str "many", .str "used"]) S = .ok (.lst [.str "full", .str "leaned", .str "count", .str "deed", .str "far", .str "fraction", .str "glue", .str "lane", .str "level", .str "long", .str "moment", .str "name", .str "number", .str "piece", .str "place", .str "rank", .str "row", .str "sheet", .str "side", .str "step", .str "take", .str "tempo", .str "text", .str "version", .str "taken", .str "many", .str "used"]) S := fun S => by
    exact oAdd_lst' (gd_of (by decide))
  refine (seq_nx (ρ' := [some (.exc "NoTempo"), some (.lst [.str "full", .str "leaned", .str "count", .str "deed", .str "far", .str "fraction", .str "glue", .str "lane", .str "level", .str "long", .str "moment", .str "name", .str "number", .str "piece", .str "place", .str "rank", .str "row", .str "sheet", .str "side", .str "step", .str "take", .str "tempo", .str "text", .str "version", .str "taken", .str "many", .str "used"]), none]) (S' := S) (by simp only [c_l_word_2, sAsg_nm, eOp_eq, eLst_eq, eIsX, aCons_eq, aNil_eq, eC_eq, eVar_s, eVar_0, bind_ok, List.length_cons, List.length_nil, f1, f2, f3, f4, f5, z4, a2, if_true, sb_ok, List.set]) _).trans ?_
  refine (seq_nx (ρ' := [some (.exc "NoTempo"), some (.lst [.str "full", .str "leaned", .str "count", .str "deed", .str "far", .str "fraction", .str "glue", .str "lane", .str "level", .str "long", .str "moment", .str "name", .str "number", .str "piece", .str "place", .str "rank", .str "row", .str "sheet", .str "side", .str "step", .str "take", .str "tempo", .str "text", .str "version", .str "taken", .str "many", .str "used"]), some (.lst [.bl false, .bl false, .bl false, .bl false])]) (S' := S) (by simp only [c_l_word_3, sAsg_nm, eOp_eq, eLst_eq, eIsX, aCons_eq, aNil_eq, eC_eq, eVar_s, eVar_0, bind_ok, List.length_cons, List.length_nil, f1, f2, f3, f4, f5, z4, if_true, sb_ok, List.set]) _).trans ?_
  have a3 : ∀ S, oAdd (.lst [.bl false, .bl false, .bl false, .bl false]) (.lst [.bl false, .bl false, .bl false, .bl false]) S = .ok (.lst [.bl false, .bl false, .bl false, .bl false, .bl false, .bl false, .bl false, .bl false]) S := fun S => by
    exact oAdd_lst' (gd_of (by decide))
  refine (seq_nx (ρ' := [some (.exc "NoTempo"), some (.lst [.str "full", .str "leaned", .str "count", .str "deed", .str "far", .str "fraction", .str "glue", .str "lane", .str "level", .str "long", .str "moment", .str "name", .str "number", .str "piece", .str "place", .str "rank", .str "row", .str "sheet", .str "side", .str "step", .str "take", .str "tempo", .str "text", .str "version", .str "taken", .str "many", .str "used"]), some (.lst [.bl false, .bl false, .bl false, .bl false, .bl false, .bl false, .bl false, .bl false])]) (S' := S) (by simp only [c_l_word_4, sAsg_nm, eOp_eq, eLst_eq, eIsX, aCons_eq, aNil_eq, eC_eq, eVar_s, eVar_0, bind_ok, List.length_cons, List.length_nil, f1, f2, f3, f4, f5, z4, a3, if_true, sb_ok, List.set]) _).trans ?_
  have a4 : ∀ S, oAdd (.lst [.bl false, .bl false, .bl false, .bl false, .bl false, .bl false, .bl false, .bl false]) (.lst [.bl false, .bl false, .bl false, .bl false]) S = .ok (.lst [.bl false, .bl false, .bl false, .bl false, .bl false, .bl false, .bl false, .bl false, .bl false, .bl false, .bl false, .bl false]) S := fun S => by
    exact oAdd_lst' (gd_of (by decide))
  refine (seq_nx (ρ' := [some (.exc "NoTempo"), some (.lst [.str "full", .str "leaned", .str "count", .str "deed", .str "far", .str "fraction", .str "glue", .str "lane", .str "level", .str "long", .str "moment", .str "name", .str "number", .str "piece", .str "place", .str "rank", .str "row", .str "sheet", .str "side", .str "step", .str "take", .str "tempo", .str "text", .str "version", .str "taken", .str "many", .str "used"]), some (.lst [.bl false, .bl false, .bl false, .bl false, .bl false, .bl false, .bl false, .bl false, .bl false, .bl false, .bl false, .bl false])]) (S' := S) (by simp only [c_l_word_5, sAsg_nm, eOp_eq, eLst_eq, eIsX, aCons_eq, aNil_eq, eC_eq, eVar_s, eVar_0, bind_ok, List.length_cons, List.length_nil, f1, f2, f3, f4, f5, z4, a4, if_true, sb_ok, List.set]) _).trans ?_
  have a5 : ∀ S, oAdd (.lst [.bl false, .bl false, .bl false, .bl false, .bl false, .bl false, .bl false, .bl false, .bl false, .bl false, .bl false, .bl false]) (.lst [.bl false, .bl false, .bl false, .bl false]) S = .ok (.lst [.bl false, .bl false, .bl false, .bl false, .bl false, .bl false, .bl false, .bl false, .bl false, .bl false, .bl false, .bl false, .bl false, .bl false, .bl false, .bl false]) S := fun S => by
    exact oAdd_lst' (gd_of (by decide))
  refine (seq_nx (ρ' := [some (.exc "NoTempo"), some (.lst [.str "full", .str "leaned", .str "count", .str "deed", .str "far", .str "fraction", .str "glue", .str "lane", .str "level", .str "long", .str "moment", .str "name", .str "number", .str "piece", .str "place", .str "rank", .str "row", .str "sheet", .str "side", .str "step", .str "take", .str "tempo", .str "text", .str "version", .str "taken", .str "many", .str "used"]), some (.lst [.bl false, .bl false, .bl false, .bl false, .bl false, .bl false, .bl false, .bl false, .bl false, .bl false, .bl false, .bl false, .bl false, .bl false, .bl false, .bl false])]) (S' := S) (by simp only [c_l_word_6, sAsg_nm, eOp_eq, eLst_eq, eIsX, aCons_eq, aNil_eq, eC_eq, eVar_s, eVar_0, bind_ok, List.length_cons, List.length_nil, f1, f2, f3, f4, f5, z4, a5, if_true, sb_ok, List.set]) _).trans ?_
  have a6 : ∀ S, oAdd (.lst [.bl false, .bl false, .bl false, .bl false, .bl false, .bl false, .bl false, .bl false, .bl false, .bl false, .bl false, .bl false, .bl false, .bl false, .bl false, .bl false]) (.lst [.bl false, .bl false, .bl false, .bl false]) S = .ok (.lst [.bl false, .bl false, .bl false, .bl false, .bl false, .bl false, .bl false, .bl false, .bl false, .bl false, .bl false, .bl false, .bl false, .bl false, .bl false, .bl false, .bl false, .bl false, .bl false, .bl false]) S := fun S => by
    exact oAdd_lst' (gd_of (by decide))
  refine (seq_nx (ρ' := [some (.exc "NoTempo"), some (.lst [.str "full", .str "leaned", .str "count", .str "deed", .str "far", .str "fraction", .str "glue", .str "lane", .str "level", .str "long", .str "moment", .str "name", .str "number", .str "piece", .str "place", .str "rank", .str "row", .str "sheet", .str "side", .str "step", .str "take", .str "tempo", .str "text", .str "version", .str "taken", .str "many", .str "used"]), some (.lst [.bl false, .bl false, .bl false, .bl false, .bl false, .bl false, .bl false, .bl false, .bl false, .bl false, .bl false, .bl false, .bl false, .bl false, .bl false, .bl false, .bl false, .bl false, .bl false, .bl false])]) (S' := S) (by simp only [c_l_word_7, sAsg_nm, eOp_eq, eLst_eq, eIsX, aCons_eq, aNil_eq, eC_eq, eVar_s, eVar_0, bind_ok, List.length_cons, List.length_nil, f1, f2, f3, f4, f5, z4, a6, if_true, sb_ok, List.set]) _).trans ?_
  have a7 : ∀ S, oAdd (.lst [.bl false, .bl false, .bl false, .bl false, .bl false, .bl false, .bl false, .bl false, .bl false, .bl false, .bl false, .bl false, .bl false, .bl false, .bl false, .bl false, .bl false, .bl false, .bl false, .bl false]) (.lst [.bl false, .bl true, .bl false, .bl false]) S = .ok (.lst [.bl false, .bl false, .bl false, .bl false, .bl false, .bl false, .bl false, .bl false, .bl false, .bl false, .bl false, .bl false, .bl false, .bl false, .bl false, .bl false, .bl false, .bl false, .bl false, .bl false, .bl false, .bl true, .bl false, .bl false]) S := fun S => by
    exact oAdd_lst' (gd_of (by decide))
  refine (seq_nx (ρ' := [some (.exc "NoTempo"), some (.lst [.str "full", .str "leaned", .str "count", .str "deed", .str "far", .str "fraction", .str "glue", .str "lane", .str "level", .str "long", .str "moment", .str "name", .str "number", .str "piece", .str "place", .str "rank", .str "row", .str "sheet", .str "side", .str "step", .str "take", .str "tempo", .str "text", .str "version", .str "taken", .str "many", .str "used"]), some (.lst [.bl false, .bl false, .bl false, .bl false, .bl false, .bl false, .bl false, .bl false, .bl false, .bl false, .bl false, .bl false, .bl false, .bl false, .bl false, .bl false, .bl false, .bl false, .bl false, .bl false, .bl false, .bl true, .bl false, .bl false])]) (S' := S) (by simp only [c_l_word_8, sAsg_nm, eOp_eq, eLst_eq, eIsX, aCons_eq, aNil_eq, eC_eq, eVar_s, eVar_0, bind_ok, List.length_cons, List.length_nil, f1, f2, f3, f4, f5, z4, a7, if_true, sb_ok, List.set]) _).trans ?_
  have a8 : ∀ S, oAdd (.lst [.bl false, .bl false, .bl false, .bl false, .bl false, .bl false, .bl false, .bl false, .bl false, .bl false, .bl false, .bl false, .bl false, .bl false, .bl false, .bl false, .bl false, .bl false, .bl false, .bl false, .bl false, .bl true, .bl false, .bl false]) (.lst [.bl false, .bl false, .bl false]) S = .ok (.lst [.bl false, .bl false, .bl false, .bl false, .bl false, .bl false, .bl false, .bl false, .bl false, .bl false, .bl false, .bl false, .bl false, .bl false, .bl false, .bl false, .bl false, .bl false, .bl false, .bl false, .bl false, .bl true, .bl false, .bl false, .bl false, .bl false, .bl false]) S := fun S => by
    exact oAdd_lst' (gd_of (by decide))
  refine (seq_nx (ρ' := [some (.exc "NoTempo"), some (.lst [.str "full", .str "leaned", .str "count", .str "deed", .str "far", .str "fraction", .str "glue", .str "lane", .str "level", .str "long", .str "moment", .str "name", .str "number", .str "piece", .str "place", .str "rank", .str "row", .str "sheet", .str "side", .str "step", .str "take", .str "tempo", .str "text", .str "version", .str "taken", .str "many", .str "used"]), some (.lst [.bl false, .bl false, .bl false, .bl false, .bl false, .bl false, .bl false, .bl false, .bl false, .bl false, .bl false, .bl false, .bl false, .bl false, .bl false, .bl false, .bl false, .bl false, .bl false, .bl false, .bl false, .bl true, .bl false, .bl false, .bl false, .bl false, .bl false])]) (S' := S) (by simp only [c_l_word_9, sAsg_nm, eOp_eq, eLst_eq, eIsX, aCons_eq, aNil_eq, eC_eq, eVar_s, eVar_0, bind_ok, List.length_cons, List.length_nil, f1, f2, f3, f4, f5, z3, a8, if_true, sb_ok, List.set]) _).trans ?_
  have cn : eCnt (eVar 2) (eC (.bl true)) [some (.exc "NoTempo"), some (.lst [.str "full", .str "leaned", .str "count", .str "deed", .str "far", .str "fraction", .str "glue", .str "lane", .str "level", .str "long", .str "moment", .str "name", .str "number", .str "piece", .str "place", .str "rank", .str "row", .str "sheet", .str "side", .str "step", .str "take", .str "tempo", .str "text", .str "version", .str "taken", .str "many", .str "used"]), some (.lst [.bl false, .bl false, .bl false, .bl false, .bl false, .bl false, .bl false, .bl false, .bl false, .bl false, .bl false, .bl false, .bl false, .bl false, .bl false, .bl false, .bl false, .bl false, .bl false, .bl false, .bl false, .bl true, .bl false, .bl false, .bl false, .bl false, .bl false])] S = .ok (.int 1) S := rfl
  have ix : eIdx (eVar 2) (eC (.bl true)) [some (.exc "NoTempo"), some (.lst [.str "full", .str "leaned", .str "count", .str "deed", .str "far", .str "fraction", .str "glue", .str "lane", .str "level", .str "long", .str "moment", .str "name", .str "number", .str "piece", .str "place", .str "rank", .str "row", .str "sheet", .str "side", .str "step", .str "take", .str "tempo", .str "text", .str "version", .str "taken", .str "many", .str "used"]), some (.lst [.bl false, .bl false, .bl false, .bl false, .bl false, .bl false, .bl false, .bl false, .bl false, .bl false, .bl false, .bl false, .bl false, .bl false, .bl false, .bl false, .bl false, .bl false, .bl false, .bl false, .bl false, .bl true, .bl false, .bl false, .bl false, .bl false, .bl false])] S = .ok (.int 21) S := rfl
  refine (seq_nx (ρ' := [some (.exc "NoTempo"), some (.lst [.str "full", .str "leaned", .str "count", .str "deed", .str "far", .str "fraction", .str "glue", .str "lane", .str "level", .str "long", .str "moment", .str "name", .str "number", .str "piece", .str "place", .str "rank", .str "row", .str "sheet", .str "side", .str "step", .str "take", .str "tempo", .str "text", .str "version", .str "taken", .str "many", .str "used"]), some (.lst [.bl false, .bl false, .bl false, .bl false, .bl false, .bl false, .bl false, .bl false, .bl false, .bl false, .bl false, .bl false, .bl false, .bl false, .bl false, .bl false, .bl false, .bl false, .bl false, .bl false, .bl false, .bl true, .bl false, .bl false, .bl false, .bl false, .bl false])]) (S' := S) (by simp only [c_l_word_10, sIf_eq, bOr_eq, bNot_eq, tTru_eq, eOp_eq, cn, eC_eq, eIsX, eVar_s, eVar_0, bind_ok, oNe_int2, f5, truD_bl, bne_self_eq_false, Bool.not_true, Bool.false_eq_true, if_false, sb_ok, sNil_eq]) _).trans ?_
  simp only [c_l_word_11, sRet_eq, eOp_eq, ix, eVar_s, eVar_0, bind_ok, oIx_lst]
  rfl
theorem word_step (S : Sto) : F_l_word [.exc "NoStep"] S = .ok (.str "step") S := by
  have z3 : szOk (0 + 1 + 1 + 1) = true := gd_of (by decide)
  have z4 : szOk (0 + 1 + 1 + 1 + 1) = true := gd_of (by decide)
  have z11 : szOk (0 + 1 + 1 + 1 + 1 + 1 + 1 + 1 + 1 + 1 + 1 + 1) = true := gd_of (by decide)
  have z12 : szOk (0 + 1 + 1 + 1 + 1 + 1 + 1 + 1 + 1 + 1 + 1 + 1 + 1) = true := gd_of (by decide)
  have f1 : tabX [("NoFraction", false), ("NoStep", false), ("NoTempo", false)] "NoStep" = some false := by decide +kernel
  have f2 : tabX [("NoFraction", true), ("NoStep", false), ("NoTempo", false)] "NoStep" = some false := by decide +kernel
  have f3 : tabX [("NoFraction", false), ("NoStep", true), ("NoTempo", false)] "NoStep" = some true := by decide +kernel
  have f4 : tabX [("NoFraction", false), ("NoStep", false), ("NoTempo", true)] "NoStep" = some false := by decide +kernel
  have f5 : tabX [("NoFraction", true), ("NoStep", true), ("NoTempo", true)] "NoStep" = some true := by decide +kernel
  unfold F_l_word b_l_word
  refine run_eq0 ?_ (by simp only [Pl])
  show sSeq c_l_word_0 _ [some (.exc "NoStep"), none, none] S = _
  refine (seq_nx (ρ' := [some (.exc "NoStep"), some (.lst [.str "full", .str "leaned", .str "count", .str "deed", .str "far", .str "fraction", .str "glue", .str "lane", .str "level", .str "long", .str "moment", .str "name"]), none]) (S' := S) (by simp only [c_l_word_0, sAsg_nm, eOp_eq, eLst_eq, eIsX, aCons_eq, aNil_eq, eC_eq, eVar_s, eVar_0, bind_ok, List.length_cons, List.length_nil, f1, f2, f3, f4, f5, z12, if_true, sb_ok, List.set]) _).trans ?_
  have a1 : ∀ S, oAdd (.lst [.str "full", .str "leaned", .str "count", .str "deed", .str "far", .str "fraction", .str "glue", .str "lane", .str "level", .str "long", .str "moment", .str "name"]) (.lst [.str "number", .str "piece", .str "place", .str "rank", .str "row", .str "sheet", .str "side", .str "step", .str "take", .str "tempo", .str "text"]) S = .ok (.lst [.str "full", .str "leaned", .str "count", .str "deed", .str "far", .str "fraction", .str "glue", .str "lane", .str "level", .str "long", .str "moment", .str "name", .str "number", .str "piece", .str "place", .str "rank", .str "row", .str "sheet", .str "side", .str "step", .str "take", .str "tempo", .str "text"]) S := fun S => by
    exact oAdd_lst' (gd_of (by decide))
  refine (seq_nx (ρ' := [some (.exc "NoStep"), some (.lst [.str "full", .str "leaned", .str "count", .str "deed", .str "far", .str "fraction", .str "glue", .str "lane", .str "level", .str "long", .str "moment", .str "name", .str "number", .str "piece", .str "place", .str "rank", .str "row", .str "sheet", .str "side", .str "step", .str "take", .str "tempo", .str "text"]), none]) (S' := S) (by simp only [c_l_word_1, sAsg_nm, eOp_eq, eLst_eq, eIsX, aCons_eq, aNil_eq, eC_eq, eVar_s, eVar_0, bind_ok, List.length_cons, List.length_nil, f1, f2, f3, f4, f5, z11, a1, if_true, sb_ok, List.set]) _).trans ?_
  have a2 : ∀ S, oAdd (.lst [.str "full", .str "leaned", .str "count", .str "deed", .str "far", .str "fraction", .str "glue", .str "lane", .str "level", .str "long", .str "moment", .str "name", .str "number", .str "piece", .str "place", .str "rank", .str "row", .str "sheet", .str "side", .str "step", .str "take", .str "tempo", .str "text"]) (.lst [.str "version", .str "taken", .str "many", .str "used"]) S = .ok (.lst [.str "full", .str "leaned", .str "count", .str "deed", .str "far", .str "fraction", .str "glue", .str "lane", .str "level", .str "long", .str "moment", .str "name", .str "number", .str "piece", .str "place", .str "rank", .str "row", .str "sheet", .str "side", .str "step", .str "take", .str "tempo", .str "text", .str "version", .str "taken", .str "many", .str "used"]) S := fun S => by
    exact oAdd_lst' (gd_of (by decide))
  refine (seq_nx (ρ' := [some (.exc "NoStep"), some (.lst [.str "full", .str "leaned", .str "count", .str "deed", .str "far", .str "fraction", .str "glue", .str "lane", .str "level", .str "long", .str "moment", .str "name", .str "number", .str "piece", .str "place", .str "rank", .str "row", .str "sheet", .str "side", .str "step", .str "take", .str "tempo", .str "text", .str "version", .str "taken", .str "many", .str "used"]), none]) (S' := S) (by simp only [c_l_word_2, sAsg_nm, eOp_eq, eLst_eq, eIsX, aCons_eq, aNil_eq, eC_eq, eVar_s, eVar_0, bind_ok, List.length_cons, List.length_nil, f1, f2, f3, f4, f5, z4, a2, if_true, sb_ok, List.set]) _).trans ?_
  refine (seq_nx (ρ' := [some (.exc "NoStep"), some (.lst [.str "full", .str "leaned", .str "count", .str "deed", .str "far", .str "fraction", .str "glue", .str "lane", .str "level", .str "long", .str "moment", .str "name", .str "number", .str "piece", .str "place", .str "rank", .str "row", .str "sheet", .str "side", .str "step", .str "take", .str "tempo", .str "text", .str "version", .str "taken", .str "many", .str "used"]), some (.lst [.bl false, .bl false, .bl false, .bl false])]) (S' := S) (by simp only [c_l_word_3, sAsg_nm, eOp_eq, eLst_eq, eIsX, aCons_eq, aNil_eq, eC_eq, eVar_s, eVar_0, bind_ok, List.length_cons, List.length_nil, f1, f2, f3, f4, f5, z4, if_true, sb_ok, List.set]) _).trans ?_
  have a3 : ∀ S, oAdd (.lst [.bl false, .bl false, .bl false, .bl false]) (.lst [.bl false, .bl false, .bl false, .bl false]) S = .ok (.lst [.bl false, .bl false, .bl false, .bl false, .bl false, .bl false, .bl false, .bl false]) S := fun S => by
    exact oAdd_lst' (gd_of (by decide))
  refine (seq_nx (ρ' := [some (.exc "NoStep"), some (.lst [.str "full", .str "leaned", .str "count", .str "deed", .str "far", .str "fraction", .str "glue", .str "lane", .str "level", .str "long", .str "moment", .str "name", .str "number", .str "piece", .str "place", .str "rank", .str "row", .str "sheet", .str "side", .str "step", .str "take", .str "tempo", .str "text", .str "version", .str "taken", .str "many", .str "used"]), some (.lst [.bl false, .bl false, .bl false, .bl false, .bl false, .bl false, .bl false, .bl false])]) (S' := S) (by simp only [c_l_word_4, sAsg_nm, eOp_eq, eLst_eq, eIsX, aCons_eq, aNil_eq, eC_eq, eVar_s, eVar_0, bind_ok, List.length_cons, List.length_nil, f1, f2, f3, f4, f5, z4, a3, if_true, sb_ok, List.set]) _).trans ?_
  have a4 : ∀ S, oAdd (.lst [.bl false, .bl false, .bl false, .bl false, .bl false, .bl false, .bl false, .bl false]) (.lst [.bl false, .bl false, .bl false, .bl false]) S = .ok (.lst [.bl false, .bl false, .bl false, .bl false, .bl false, .bl false, .bl false, .bl false, .bl false, .bl false, .bl false, .bl false]) S := fun S => by
    exact oAdd_lst' (gd_of (by decide))
  refine (seq_nx (ρ' := [some (.exc "NoStep"), some (.lst [.str "full", .str "leaned", .str "count", .str "deed", .str "far", .str "fraction", .str "glue", .str "lane", .str "level", .str "long", .str "moment", .str "name", .str "number", .str "piece", .str "place", .str "rank", .str "row", .str "sheet", .str "side", .str "step", .str "take", .str "tempo", .str "text", .str "version", .str "taken", .str "many", .str "used"]), some (.lst [.bl false, .bl false, .bl false, .bl false, .bl false, .bl false, .bl false, .bl false, .bl false, .bl false, .bl false, .bl false])]) (S' := S) (by simp only [c_l_word_5, sAsg_nm, eOp_eq, eLst_eq, eIsX, aCons_eq, aNil_eq, eC_eq, eVar_s, eVar_0, bind_ok, List.length_cons, List.length_nil, f1, f2, f3, f4, f5, z4, a4, if_true, sb_ok, List.set]) _).trans ?_
  have a5 : ∀ S, oAdd (.lst [.bl false, .bl false, .bl false, .bl false, .bl false, .bl false, .bl false, .bl false, .bl false, .bl false, .bl false, .bl false]) (.lst [.bl false, .bl false, .bl false, .bl false]) S = .ok (.lst [.bl false, .bl false, .bl false, .bl false, .bl false, .bl false, .bl false, .bl false, .bl false, .bl false, .bl false, .bl false, .bl false, .bl false, .bl false, .bl false]) S := fun S => by
    exact oAdd_lst' (gd_of (by decide))
  refine (seq_nx (ρ' := [some (.exc "NoStep"), some (.lst [.str "full", .str "leaned", .str "count", .str "deed", .str "far", .str "fraction", .str "glue", .str "lane", .str "level", .str "long", .str "moment", .str "name", .str "number", .str "piece", .str "place", .str "rank", .str "row", .str "sheet", .str "side", .str "step", .str "take", .str "tempo", .str "text", .str "version", .str "taken", .str "many", .str "used"]), some (.lst [.bl false, .bl false, .bl false, .bl false, .bl false, .bl false, .bl false, .bl false, .bl false, .bl false, .bl false, .bl false, .bl false, .bl false, .bl false, .bl false])]) (S' := S) (by simp only [c_l_word_6, sAsg_nm, eOp_eq, eLst_eq, eIsX, aCons_eq, aNil_eq, eC_eq, eVar_s, eVar_0, bind_ok, List.length_cons, List.length_nil, f1, f2, f3, f4, f5, z4, a5, if_true, sb_ok, List.set]) _).trans ?_
  have a6 : ∀ S, oAdd (.lst [.bl false, .bl false, .bl false, .bl false, .bl false, .bl false, .bl false, .bl false, .bl false, .bl false, .bl false, .bl false, .bl false, .bl false, .bl false, .bl false]) (.lst [.bl false, .bl false, .bl false, .bl true]) S = .ok (.lst [.bl false, .bl false, .bl false, .bl false, .bl false, .bl false, .bl false, .bl false, .bl false, .bl false, .bl false, .bl false, .bl false, .bl false, .bl false, .bl false, .bl false, .bl false, .bl false, .bl true]) S := fun S => by
    exact oAdd_lst' (gd_of (by decide))
  refine (seq_nx (ρ' := [some (.exc "NoStep"), some (.lst [.str "full", .str "leaned", .str "count", .str "deed", .str "far", .str "fraction", .str "glue", .str "lane", .str "level", .str "long", .str "moment", .str "name", .str "number", .str "piece", .str "place", .str "rank", .str "row", .str "sheet", .str "side", .str "step", .str "take", .str "tempo", .str "text", .str "version", .str "taken", .str "many", .str "used"]), some (.lst [.bl false, .bl false, .bl false, .bl false, .bl false, .bl false, .bl false, .bl false, .bl false, .bl false, .bl false, .bl false, .bl false, .bl false, .bl false, .bl false, .bl false, .bl false, .bl false, .bl true])]) (S' := S) (by simp only [c_l_word_7, sAsg_nm, eOp_eq, eLst_eq, eIsX, aCons_eq, aNil_eq, eC_eq, eVar_s, eVar_0, bind_ok, List.length_cons, List.length_nil, f1, f2, f3, f4, f5, z4, a6, if_true, sb_ok, List.set]) _).trans ?_
  have a7 : ∀ S, oAdd (.lst [.bl false, .bl false, .bl false, .bl false, .bl false, .bl false, .bl false, .bl false, .bl false, .bl false, .bl false, .bl false, .bl false, .bl false, .bl false, .bl false, .bl false, .bl false, .bl false, .bl true]) (.lst [.bl false, .bl false, .bl false, .bl false]) S = .ok (.lst [.bl false, .bl false, .bl false, .bl false, .bl false, .bl false, .bl false, .bl false, .bl false, .bl false, .bl false, .bl false, .bl false, .bl false, .bl false, .bl false, .bl false, .bl false, .bl false, .bl true, .bl false, .bl false, .bl false, .bl false]) S := fun S => by
    exact oAdd_lst' (gd_of (by decide))
  refine (seq_nx (ρ' := [some (.exc "NoStep"), some (.lst [.str "full", .str "leaned", .str "count", .str "deed", .str "far", .str "fraction", .str "glue", .str "lane", .str "level", .str "long", .str "moment", .str "name", .str "number", .str "piece", .str "place", .str "rank", .str "row", .str "sheet", .str "side", .str "step", .str "take", .str "tempo", .str "text", .str "version", .str "taken", .str "many", .str "used"]), some (.lst [.bl false, .bl false, .bl false, .bl false, .bl false, .bl false, .bl false, .bl false, .bl false, .bl false, .bl false, .bl false, .bl false, .bl false, .bl false, .bl false, .bl false, .bl false, .bl false, .bl true, .bl false, .bl false, .bl false, .bl false])]) (S' := S) (by simp only [c_l_word_8, sAsg_nm, eOp_eq, eLst_eq, eIsX, aCons_eq, aNil_eq, eC_eq, eVar_s, eVar_0, bind_ok, List.length_cons, List.length_nil, f1, f2, f3, f4, f5, z4, a7, if_true, sb_ok, List.set]) _).trans ?_
  have a8 : ∀ S, oAdd (.lst [.bl false, .bl false, .bl false, .bl false, .bl false, .bl false, .bl false, .bl false, .bl false, .bl false, .bl false, .bl false, .bl false, .bl false, .bl false, .bl false, .bl false, .bl false, .bl false, .bl true, .bl false, .bl false, .bl false, .bl false]) (.lst [.bl false, .bl false, .bl false]) S = .ok (.lst [.bl false, .bl false, .bl false, .bl false, .bl false, .bl false, .bl false, .bl false, .bl false, .bl false, .bl false, .bl false, .bl false, .bl false, .bl false, .bl false, .bl false, .bl false, .bl false, .bl true, .bl false, .bl false, .bl false, .bl false, .bl false, .bl false, .bl false]) S := fun S => by
    exact oAdd_lst' (gd_of (by decide))
  refine (seq_nx (ρ' := [some (.exc "NoStep"), some (.lst [.str "full", .str "leaned", .str "count", .str "deed", .str "far", .str "fraction", .str "glue", .str "lane", .str "level", .str "long", .str "moment", .str "name", .str "number", .str "piece", .str "place", .str "rank", .str "row", .str "sheet", .str "side", .str "step", .str "take", .str "tempo", .str "text", .str "version", .str "taken", .str "many", .str "used"]), some (.lst [.bl false, .bl false, .bl false, .bl false, .bl false, .bl false, .bl false, .bl false, .bl false, .bl false, .bl false, .bl false, .bl false, .bl false, .bl false, .bl false, .bl false, .bl false, .bl false, .bl true, .bl false, .bl false, .bl false, .bl false, .bl false, .bl false, .bl false])]) (S' := S) (by simp only [c_l_word_9, sAsg_nm, eOp_eq, eLst_eq, eIsX, aCons_eq, aNil_eq, eC_eq, eVar_s, eVar_0, bind_ok, List.length_cons, List.length_nil, f1, f2, f3, f4, f5, z3, a8, if_true, sb_ok, List.set]) _).trans ?_
  have cn : eCnt (eVar 2) (eC (.bl true)) [some (.exc "NoStep"), some (.lst [.str "full", .str "leaned", .str "count", .str "deed", .str "far", .str "fraction", .str "glue", .str "lane", .str "level", .str "long", .str "moment", .str "name", .str "number", .str "piece", .str "place", .str "rank", .str "row", .str "sheet", .str "side", .str "step", .str "take", .str "tempo", .str "text", .str "version", .str "taken", .str "many", .str "used"]), some (.lst [.bl false, .bl false, .bl false, .bl false, .bl false, .bl false, .bl false, .bl false, .bl false, .bl false, .bl false, .bl false, .bl false, .bl false, .bl false, .bl false, .bl false, .bl false, .bl false, .bl true, .bl false, .bl false, .bl false, .bl false, .bl false, .bl false, .bl false])] S = .ok (.int 1) S := rfl
  have ix : eIdx (eVar 2) (eC (.bl true)) [some (.exc "NoStep"), some (.lst [.str "full", .str "leaned", .str "count", .str "deed", .str "far", .str "fraction", .str "glue", .str "lane", .str "level", .str "long", .str "moment", .str "name", .str "number", .str "piece", .str "place", .str "rank", .str "row", .str "sheet", .str "side", .str "step", .str "take", .str "tempo", .str "text", .str "version", .str "taken", .str "many", .str "used"]), some (.lst [.bl false, .bl false, .bl false, .bl false, .bl false, .bl false, .bl false, .bl false, .bl false, .bl false, .bl false, .bl false, .bl false, .bl false, .bl false, .bl false, .bl false, .bl false, .bl false, .bl true, .bl false, .bl false, .bl false, .bl false, .bl false, .bl false, .bl false])] S = .ok (.int 19) S := rfl
  refine (seq_nx (ρ' := [some (.exc "NoStep"), some (.lst [.str "full", .str "leaned", .str "count", .str "deed", .str "far", .str "fraction", .str "glue", .str "lane", .str "level", .str "long", .str "moment", .str "name", .str "number", .str "piece", .str "place", .str "rank", .str "row", .str "sheet", .str "side", .str "step", .str "take", .str "tempo", .str "text", .str "version", .str "taken", .str "many", .str "used"]), some (.lst [.bl false, .bl false, .bl false, .bl false, .bl false, .bl false, .bl false, .bl false, .bl false, .bl false, .bl false, .bl false, .bl false, .bl false, .bl false, .bl false, .bl false, .bl false, .bl false, .bl true, .bl false, .bl false, .bl false, .bl false, .bl false, .bl false, .bl false])]) (S' := S) (by simp only [c_l_word_10, sIf_eq, bOr_eq, bNot_eq, tTru_eq, eOp_eq, cn, eC_eq, eIsX, eVar_s, eVar_0, bind_ok, oNe_int2, f5, truD_bl, bne_self_eq_false, Bool.not_true, Bool.false_eq_true, if_false, sb_ok, sNil_eq]) _).trans ?_
  simp only [c_l_word_11, sRet_eq, eOp_eq, ix, eVar_s, eVar_0, bind_ok, oIx_lst]
  rfl
theorem pls_two {a b : D} {k : Nat} (ha : Pl k a) (hb : Pl k b) : Pl (k + 2) (.tup [a, b]) := by
  refine pl_tup ?_
  exact pls_iff.mpr fun d hd => by
    simp only [List.mem_cons, List.not_mem_nil, or_false] at hd
    rcases hd with rfl | rfl
    · exact ha
    · exact hb
theorem asked_told {B : Nat} {i : Int} (h : Tok B ss R) (h0 : 0 ≤ i) (S : Sto) : F_l_asked [td ss R, .int i] S = .ok (.tup [.str "told", fq (le ss R i)]) S := by
  have z2 : szOk (0 + 1 + 1) = true := gd_of (by decide)
  have e := fun S => length_of_ok h h0 S
  unfold F_l_asked b_l_asked
  refine run_eq0 ?_ (pls_two (by simp only [Pl]) (pl_fq (k := 35)))
  show c_l_asked_0 [some (td ss R), some (.int i), none] S = _
  simp only [c_l_asked_0, sTry, sRet_eq, eTup_eq, eCall_eq, aCons_eq, aNil_eq, eC_eq, eVar_s, eVar_0, bind_ok, e, List.length_cons, List.length_nil, z2, if_true, sb_ok]
theorem asked_ex {c wd : Str} {x d : D} (hs : sub_LaneError_h c = some true) (hc : ∀ S, F_length_of [d, x] S = .ex c S) (hw : ∀ S, F_l_word [.exc c] S = .ok (.str wd) S) (S : Sto) : F_l_asked [d, x] S = .ok (.tup [.str "refused", .str wd]) S := by
  have z2 : szOk (0 + 1 + 1) = true := gd_of (by decide)
  unfold F_l_asked b_l_asked
  refine run_eq0 ?_ (pls_two (by simp only [Pl]) (by simp only [Pl]))
  show c_l_asked_0 [some d, some x, none] S = _
  unfold c_l_asked_0 sTry
  simp only [sRet_eq, eTup_eq, eCall_eq, aCons_eq, aNil_eq, eC_eq, eVar_s, eVar_0, bind_ok, bind_ex, hc, sb_ex, hs, hw, List.set, List.length_cons, List.length_nil, z2, if_true, sb_ok, outR]
theorem length_no_tempo {x : D} (h : Ay n w j d) (hn : n ≤ 1000) (ht : ¬ Tm d) (S : Sto) : F_length_of [d, x] S = .ex "NoTempo" S := by
  have e := fun S => refuse_any h hn ht S
  unfold F_length_of b_length_of
  refine run_ex0 (ρ := [some d, some x]) ?_
  refine seq_ex ?_ _
  show c_length_of_0 [some d, some x] S = _
  simp only [c_length_of_0, sExpr_eq, eCall_eq, aCons_eq, aNil_eq, eVar_0, bind_ok, e, sb_ex]
theorem length_no_step {B : Nat} {x : D} (h : Tok B ss R) (hx : Ay n w j x) (hn : isWh x = false) (S : Sto) : F_length_of [td ss R, x] S = .ex "NoStep" S := by
  have e0 := fun S => refuse_ok h S
  have e1 := fun S => is_whole_any hx S
  unfold F_length_of b_length_of
  refine run_ex0 (ρ := [some (td ss R), some x]) ?_
  refine (seq_nx (ρ' := [some (td ss R), some x]) (S' := S) (by simp [c_length_of_0, e0]) _).trans ?_
  refine seq_ex ?_ _
  show c_length_of_1 [some (td ss R), some x] S = _
  simp only [c_length_of_1, sIf_eq, bOr_eq, bNot_eq, tTru_eq, eCall_eq, aCons_eq, aNil_eq, eVar_s, eVar_0, bind_ok, e1, hn, truD_bl, Bool.not_false, if_true, sb_ok, sRaise_eq]
theorem length_no_neg {B : Nat} {i : Int} (h : Tok B ss R) (hn : i < 0) (S : Sto) : F_length_of [td ss R, .int i] S = .ex "NoStep" S := by
  have e0 := fun S => refuse_ok h S
  have e1 := fun S => is_whole_ok i S
  unfold F_length_of b_length_of
  refine run_ex0 (ρ := [some (td ss R), some (.int i)]) ?_
  refine (seq_nx (ρ' := [some (td ss R), some (.int i)]) (S' := S) (by simp [c_length_of_0, e0]) _).trans ?_
  refine seq_ex ?_ _
  show c_length_of_1 [some (td ss R), some (.int i)] S = _
  simp only [c_length_of_1, sIf_eq, bOr_eq, bNot_eq, tTru_eq, eOp_eq, eC_eq, eCall_eq, aCons_eq, aNil_eq, eVar_s, eVar_0, bind_ok, e1, truD_bl, Bool.not_true, Bool.false_eq_true, if_false, oLt_int, hn, decide_true, if_true, sb_ok, sRaise_eq]
theorem asked_tempo {x : D} (h : Ay n w j d) (hn : n ≤ 1000) (ht : ¬ Tm d) (S : Sto) : F_l_asked [d, x] S = .ok (.tup [.str "refused", .str "tempo"]) S :=
  asked_ex (by decide +kernel) (fun S => length_no_tempo h hn ht S) word_tempo S
theorem asked_step {B : Nat} {x : D} (h : Tok B ss R) (hx : Ay n w j x) (hn : isWh x = false) (S : Sto) : F_l_asked [td ss R, x] S = .ok (.tup [.str "refused", .str "step"]) S :=
  asked_ex (by decide +kernel) (fun S => length_no_step h hx hn S) word_step S
theorem asked_neg {B : Nat} {i : Int} (h : Tok B ss R) (hn : i < 0) (S : Sto) : F_l_asked [td ss R, .int i] S = .ok (.tup [.str "refused", .str "step"]) S :=
  asked_ex (by decide +kernel) (fun S => length_no_neg h hn S) word_step S
theorem oEq_nilT {α : Type} {f : α → D} {xs : List α} {S : Sto} (hf : ∀ x, Cn 38 (f x)) : oEq (.tup (xs.map f)) (.tup []) S = .ok (.bl xs.isEmpty) S := by
  rw [oEq_cn (by simp only [Cn]; exact cns_iff.mpr fun d hd => by obtain ⟨x, _, rfl⟩ := List.mem_map.mp hd; exact hf x) (by simp [Cn, Cns])]
  have : gd (D.tup (xs.map f) = D.tup []) = xs.isEmpty := by
    cases xs with
    | nil => exact gd_of rfl
    | cons x xs =>
      cases z : gd (D.tup ((x :: xs).map f) = D.tup []) with
      | true => have := of_gd z; simp at this
      | false => rfl
  rw [this]
theorem at_m2 {α : Type} {g : α → D} {xs : List α} (h : 1 < xs.length) : atI (xs.map g) (-2) = some (g xs[xs.length - 2]) := by
  unfold atI ixN
  rw [List.length_map, if_neg (by decide), if_pos (by omega)]
  rw [show (-2 + (xs.length : Int)).toNat = xs.length - 2 by omega]
  simp only [Option.bind_some, List.getElem?_map]
  rw [List.getElem?_eq_getElem (by omega)]; rfl
theorem cut_last {α : Type} {xs : List α} (h : xs ≠ []) : cutD xs none (some (-1)) = xs.dropLast := by
  have := List.length_pos_iff.mpr h
  unfold cutD
  simp [HT.sIx, List.dropLast_eq_take]
  omega
def thd : Rat := ⟨1, 3, by decide, by decide⟩
theorem drop_getLast {α : Type} {xs : List α} (h : xs.dropLast ≠ []) : ∃ h2 : 1 < xs.length, xs.dropLast.getLast h = xs[xs.length - 2] := by
  have h2 : 1 < xs.length := by
    have := List.length_pos_iff.mpr h
    rw [List.length_dropLast] at this
    omega
  refine ⟨h2, ?_⟩
  rw [List.getLast_eq_getElem]
  simp only [List.getElem_dropLast, List.length_dropLast]
  congr 1
theorem wp_near (h : Pk p k) (hk : k + 100 ≤ 1000000000000) (d : Drawn 30 9000 7 ss R) (q : ∀ ss' R' p', Tok 44 ss' R' → Pk p' (k + 100) → Q (td ss' R') (Pn ns p' T)) : Wp (F_l_near [.ob 0, td ss R] (Pn ns p T)) Q E := by
  have z2 : szOk (0 + 1 + 1) = true := gd_of (by decide)
  have z3 : szOk (0 + 1 + 1 + 1) = true := gd_of (by decide)
  have z1 : szOk (0 + 1) = true := gd_of (by decide)
  have z0 : szOk 0 = true := gd_of (by decide)
  have bh : Bq 2 thd := ⟨by decide, by decide⟩
  have fh : D.tup [.int 1, .int 3] = fq thd := rfl
  have f1 : D.tup [.int 1, .int 1] = fq 1 := rfl
  have ht : Tok 40 ss R := d.tok (by decide) (by decide) (by decide) (by decide)
  have a1 := fun S => l_add_ok d.br bh (by decide) S
  have b1 : Bq 40 (R + thd) := (Bq_add d.br bh).mono (by decide)
  have r0 : 0 < R + thd := by
    have := ht.r0
    have h2 : 0 < thd := by rw [← num_pos]; decide
    grind
  have dl := d.len
  have rp : ∀ x S, oMul (.tup [fq x]) (.int 2) S = .ok (.tup [fq x, fq x]) S := fun x S => by
    have g : gd ([fq x] ≠ [] ∧ (2 : Int) ≤ 2 ∧ (2 : Int) ≤ 1000 ∧ [fq x].length ≤ 1000) = true := gd_of ⟨by simp, by decide, by decide, by simp⟩
    simp only [oMul, g, if_true]
    rfl
  refine wp_run ?_
  show Ws (b_l_near [some (.ob 0), some (td ss R), none, none, none, none, none] (Pn ns p T)) _
  unfold b_l_near
  refine ws_seq ?_
  simp only [c_l_near_0, sAsg_nm, eCall_eq, aCons_eq, aNil_eq, eC_eq, eVar_s, eVar_0, bind_ok, ws_sb]
  refine wp_draw h (by omega) (by decide) (by decide) fun v p1 v0 v1 h1 => ?_
  simp only [ws_nx, List.set]
  refine ws_seq ?_
  have new : Ws (sRet (eCall F_l_tempo (aCons (eVar 0) (aCons (eC (.int 6)) aNil))) [some (.ob 0), some (td ss R), some (.int v), none, none, none, none] (Pn ns p1 T)) { endP (Pn ns p T) Q E with nx := fun ρ' S' => Ws (sSeq c_l_near_2 (sSeq c_l_near_3 (sSeq c_l_near_4 (sSeq c_l_near_5 c_l_near_6))) ρ' S') (endP (Pn ns p T) Q E) } := by
    simp only [sRet_eq, eCall_eq, aCons_eq, aNil_eq, eC_eq, eVar_s, eVar_0, bind_ok, ws_sb]
    refine wp_tempoI 6 rfl h1 (by decide) (by omega) fun ss' R' p2 dr h2 => ?_
    exact ⟨Pn ns p2 T, [], td ss' R', by simp, kp_pen, frz_pl 40 _ pl_td, q _ _ _ ((dr.tok (by decide) (by decide) (by decide) (by decide)).mono (by decide) (by decide)) (h2.mono (by omega))⟩
  have et := fun S => oEq_nilT (f := sd) (xs := ss) (S := S) fun _ => cn_sd
  simp only [c_l_near_1, sIf_eq, bOr_eq, tTru_eq, eOp_eq, eC_eq, eVar_s, eVar_0, bind_ok, oEq_int2, truD_bl, eTup_eq, aNil_eq, List.length_nil, z0, if_true, td0, et]
  by_cases hv : v = 0
  · have hv' : (v == 0) = true := by simpa using hv
    simp only [hv', if_true, sb_ok]
    exact new
  · have hv' : (v == 0) = false := by simpa using hv
    simp only [hv', Bool.false_eq_true, if_false]
    by_cases he : ss = []
    · have ie : ss.isEmpty = true := by simpa using he
      simp only [ie, if_true, sb_ok]
      exact new
    · have ie : ss.isEmpty = false := by simpa using he
      have al : ∀ S, oIx (.tup (ss.map sd)) (.int (-1)) S = .ok (sd (ss.getLast he)) S := fun S => by rw [oIx_tup, at_last he]
      obtain ⟨s, hs⟩ : ∃ s, s = ss.getLast he := ⟨_, rfl⟩
      have ms : s ∈ ss := hs ▸ List.getLast_mem he
      have sk := (d.gs.all s ms)
      simp only [ie, Bool.false_eq_true, if_false, sb_ok, sNil_eq, ws_nx]
      refine ws_step (ρ' := [some (.ob 0), some (td ss R), some (.int v), some (.int s.m), some (fq s.f), some (fq s.l), none]) (S' := Pn ns p1 T) (by
        simp only [c_l_near_2, sAsg_tp, eOp_eq, eNeg_eq, eC_eq, eVar_s, eVar_0, bind_ok, td0, al, ← hs, sb_ok]
        rfl) ?_
      refine ws_seq ?_
      simp only [c_l_near_3, sIf_eq, bAnd_eq, tTru_eq, eOp_eq, eC_eq, eVar_s, eVar_0, bind_ok, oEq_int2, truD_bl, eTup_eq, eCall_eq, aCons_eq, aNil_eq, td1, List.length_cons, List.length_nil, z1, z2, if_true, fh, a1, rp, oNe_pair]
      have rest : Ws (sSeq c_l_near_4 (sSeq c_l_near_5 c_l_near_6) [some (.ob 0), some (td ss R), some (.int v), some (.int s.m), some (fq s.f), some (fq s.l), none] (Pn ns p1 T)) (endP (Pn ns p T) Q E) := by
        have a2 := fun S => l_add_ok sk.1.bl (show Bq 1 (1 : Rat) from ⟨by decide, by decide⟩) (by decide) S
        have bl2 : Bq 44 (s.l + 1) := (Bq_add sk.1.bl (show Bq 1 (1 : Rat) from ⟨by decide, by decide⟩)).mono (by decide)
        have l0 : 0 < s.l + 1 := by
          have := sk.1.l0
          grind
        obtain ⟨o, ho⟩ : ∃ o : Fx.St, o = ⟨s.m + 1, s.f, s.l + 1⟩ := ⟨_, rfl⟩
        have m1 := sk.1.m1
        have m2 := sk.2
        have so : Sok 44 o := by
          rw [ho]
          exact ⟨by decide, by show 1 ≤ s.m + 1; omega, by show s.m + 1 ≤ 200000; omega, sk.1.f0, l0, sk.1.bf.mono (by decide), bl2⟩
        have mo' : o.m = s.m + 1 := by rw [ho]
        have eo : D.tup [.int (s.m + 1), fq s.f, fq (s.l + 1)] = sd o := by rw [ho]; rfl
        have s44 : ∀ t ∈ ss, Sok 44 t := fun t ht2 => (d.gs.all t ht2).1.mono (by decide) (by decide)
        refine ws_step (ρ' := [some (.ob 0), some (td ss R), some (.int v), some (.int s.m), some (fq s.f), some (fq s.l), some (sd o)]) (S' := Pn ns p1 T) (by
          simp only [c_l_near_4, sAsg_nm, eTup_eq, eOp_eq, eCall_eq, aCons_eq, aNil_eq, eC_eq, eVar_s, eVar_0, bind_ok, oAdd_int, List.length_cons, List.length_nil, z2, z3, if_true, f1, a2, eo, sb_ok, List.set]) ?_
        have fin : Wp (.ok (td ss R) (Pn ns p1 T) : Res D) (fun d S => (endP (Pn ns p T) Q E).rt d S) (fun _ _ => True) := by
          simp only [wp_ok]
          exact ⟨Pn ns p1 T, [], td ss R, by simp, kp_pen, frz_pl 40 _ pl_td, q _ _ _ (ht.mono (by decide) (by decide)) (h1.mono (by omega))⟩
        simp only [wp_ok] at fin
        refine ws_seq ?_
        simp only [c_l_near_5, sIf_eq, bOr_eq, bAnd_eq, tTru_eq, eOp_eq, eSl_eq, pAt_eq, pNo_eq, eB_eq, eTup_eq, eCall_eq, aCons_eq, aNil_eq, eC_eq, eNeg_eq, eVar_s, eVar_0, bind_ok, td0, td1, sl1, List.length_cons, List.length_nil, z2, if_true, oEq_pair, truD_bl, cLen_tup, List.length_map, oGt_int]
        by_cases hp : o.f = R ∧ o.l = R
        · simp only [decide_eq_true hp, if_true, sb_ok, sRet_eq, eVar_s, eVar_0, ws_rt]
          exact fin
        · simp only [decide_eq_false hp, Bool.false_eq_true, if_false]
          have last : (∀ h : ss.dropLast ≠ [], ¬ ((ss.dropLast.getLast h).l = o.f ∧ rise (ss.dropLast.getLast h) = rise o)) → Ws (c_l_near_6 [some (.ob 0), some (td ss R), some (.int v), some (.int s.m), some (fq s.f), some (fq s.l), some (sd o)] (Pn ns p1 T)) (endP (Pn ns p T) Q E) := by
            intro ok
            have cut : ∀ S, oSl (.tup (ss.map sd)) none (some (-1)) S = .ok (.tup (ss.dropLast.map sd)) S := fun S => by
              show Res.ok (D.tup (cutD (ss.map sd) none (some (-1)))) S = _
              rw [cut_last (by simpa using he)]
              rw [List.map_dropLast]
            have z : szOk ((ss.dropLast.map sd).length + (0 + 1)) = true := gd_of (by simp; omega)
            have ap : ss.dropLast.map sd ++ [sd o] = (ss.dropLast ++ [o]).map sd := by simp
            simp only [c_l_near_6, sRet_eq, eTup_eq, eOp_eq, eSl_eq, pAt_eq, pNo_eq, aCons_eq, aNil_eq, eC_eq, eNeg_eq, eVar_s, eVar_0, bind_ok, td0, td1, cut, List.length_cons, List.length_nil, z1, z2, if_true, oAdd_tup, z, ap, sb_ok, ws_rt]
            refine ⟨Pn ns p1 T, [], td (ss.dropLast ++ [o]) R, by simp, kp_pen, frz_pl 40 _ pl_td, q _ _ _ ⟨by simp; omega, fun t ht2 => ?_, ht.r0, ht.br.mono (by decide), ?_, d.gs.adj.drop.snoc ok, fun _ => by simpa using hp⟩ (h1.mono (by omega))⟩
            · rcases List.mem_append.mp ht2 with ht2 | ht2
              · exact s44 t (List.dropLast_subset _ ht2)
              · rw [List.mem_singleton.mp ht2]; exact so
            · have g := (d.gs.drop).sum (by decide)
              rw [List.map_append, List.sum_append]
              simp only [List.map_cons, List.map_nil, List.sum_cons, List.sum_nil, mo']
              rw [List.length_dropLast] at g
              omega
          by_cases h2 : (1 : Int) < ss.length
          · have h2' : 1 < ss.length := by omega
            have am : ∀ S, oIx (.tup (ss.map sd)) (.int (-2)) S = .ok (sd ss[ss.length - 2]) S := fun S => by rw [oIx_tup, at_m2 h2']
            have go := fun S => l_goes_on_ok (s44 _ (List.getElem_mem (show ss.length - 2 < ss.length by omega))) so S
            simp only [decide_eq_true h2, if_true, am, go, bind_ok, truD_bl]
            by_cases hg : ss[ss.length - 2].l = o.f ∧ rise ss[ss.length - 2] = rise o
            · simp only [decide_eq_true hg, if_true, sb_ok, sRet_eq, eVar_s, eVar_0, ws_rt, bind_ok]
              exact fin
            · simp only [decide_eq_false hg, Bool.false_eq_true, if_false, sb_ok, sNil_eq, ws_nx]
              refine last fun h3 => ?_
              obtain ⟨h4, e⟩ := drop_getLast h3
              rw [e]; exact hg
          · simp only [decide_eq_false h2, Bool.false_eq_true, if_false, sb_ok, sNil_eq, ws_nx, bind_ok]
            refine last fun h3 => ?_
            obtain ⟨h4, e⟩ := drop_getLast h3
            omega
      by_cases hv1 : v = 1
      · have hv1' : (v == 1) = true := by simpa using hv1
        simp only [hv1', if_true]
        by_cases hq : s.f = R + thd ∧ s.l = R + thd
        · simp only [decide_eq_true hq, Bool.not_true, Bool.false_eq_true, if_false, sb_ok, sNil_eq, ws_nx]
          exact rest
        · simp only [decide_eq_false hq, Bool.not_false, if_true, sb_ok, sRet_eq, eTup_eq, eOp_eq, eCall_eq, aCons_eq, aNil_eq, eC_eq, eVar_s, eVar_0, bind_ok, td0, td1, List.length_cons, List.length_nil, z2, fh, a1, ws_rt]
          refine ⟨Pn ns p1 T, [], td ss (R + thd), by simp, kp_pen, frz_pl 40 _ pl_td, q _ _ _ ((show Tok 40 ss (R + thd) from ⟨ht.n24, ht.all, r0, b1, ht.sum, ht.plain, fun hne => ?_⟩).mono (by decide) (by decide)) (h1.mono (by omega))⟩
          rw [← hs]; exact hq
      · have hv1' : (v == 1) = false := by simpa using hv1
        simp only [hv1', Bool.false_eq_true, if_false, sb_ok, sNil_eq, ws_nx]
        exact rest
theorem wp_steps {B : Nat} (h : Pk p k) (hk : k + 30 ≤ 1000000000000) (ht : Tok B ss R) (q : ∀ (is : List Int) p', (∀ i ∈ is, 0 ≤ i ∧ i ≤ 1000000000000) → is.length ≤ 76 → Pk p' (k + 30) → Q (.lst (is.map D.int)) (Pn ns p' T)) : Wp (F_l_steps [.ob 0, td ss R] (Pn ns p T)) Q E := by
  have z0 : szOk 0 = true := gd_of (by decide)
  have z3 : szOk (0 + 1 + 1 + 1) = true := gd_of (by decide)
  have z4 : szOk (0 + 1 + 1 + 1 + 1) = true := gd_of (by decide)
  have n24 := ht.n24
  have p12 : ∀ S, oPow (.int 10) (.int 12) S = .ok (.int 1000000000000) S := fun S => oPow_int S (by decide)
  refine wp_run ?_
  show Ws (b_l_steps [some (.ob 0), some (td ss R), none, none, none] (Pn ns p T)) _
  unfold b_l_steps
  refine ws_step (ρ' := [some (.ob 0), some (td ss R), some (.lst []), some (.int 0), none]) (S' := Pn ns p T) (by
    simp only [c_l_steps_0, sPar_eq, eLst_eq, aCons_eq, aNil_eq, eC_eq, bind_ok, List.length_nil, z0, if_true, sb_ok, List.set]) ?_
  refine ws_seq ?_
  refine ws_forV (qs := ss) (g := sd) (S1 := Pn ns p T) (it := .tup (ss.map sd)) (by simp only [iSeq_eq, eOp_eq, eVar_s, eVar_0, eC_eq, bind_ok, td0]) (.inl rfl) (fun i ρ S => ∃ (is : List Int) (x4 : Option D) (p' : Int × Int), ρ = [some (.ob 0), some (td ss R), some (.lst (is.map D.int)), some (.int (sm (ss.take i))), x4] ∧ S = Pn ns p' T ∧ (∀ i ∈ is, 0 ≤ i ∧ i ≤ 1000000000000) ∧ is.length = 3 * i ∧ Pk p' (k + i)) ⟨[], none, p, rfl, rfl, by simp, rfl, h⟩ ?_ ?_
  · rintro i hi ρ S ⟨is, x4, p', rfl, rfl, hb, hl, hp⟩
    refine ⟨_, put_nm _ _ _ _, ?_⟩
    simp only [List.set]
    have m1 := (ht.all _ (List.getElem_mem hi)).m1
    have m2 := (ht.all _ (List.getElem_mem hi)).m2
    have t0 := ht.sm0 i
    have t1 := ht.sm0 (i + 1)
    have e1 := sm_take_succ hi
    refine ws_seq ?_
    simp only [c_l_steps_1_0, sAsg_nm, eOp_eq, eLst_eq, eCall_eq, aCons_eq, aNil_eq, eC_eq, eVar_s, eVar_0, bind_ok, sd0, ws_sb, wp_bind]
    refine wp_draw hp (by omega) (by omega) (by omega) fun v p2 v0 v1 h2 => ?_
    have zl : szOk ((is.map D.int).length + (0 + 1 + 1 + 1)) = true := gd_of (by simp; omega)
    have ap : is.map D.int ++ [D.int (sm (ss.take i)), .int (sm (ss.take i) + v), .int (sm (ss.take i) + ss[i].m - 1)] = (is ++ [sm (ss.take i), sm (ss.take i) + v, sm (ss.take i) + ss[i].m - 1]).map D.int := by simp
    simp only [wp_ok, wp_bind, bind_ok, oAdd_int, oSub_int, sd0, List.length_cons, List.length_nil, z3, if_true, oAdd_lst, zl, ap, ws_nx, List.set]
    simp only [c_l_steps_1_1, sAsg_nm, eOp_eq, aCons_eq, aNil_eq, eC_eq, eVar_s, eVar_0, bind_ok, sd0, oAdd_int, sb_ok, ws_nx, List.set]
    refine ⟨_, _, p2, by rw [e1], rfl, fun j hj => ?_, by simp; omega, h2.mono (by omega)⟩
    rcases List.mem_append.mp hj with hj | hj
    · exact hb j hj
    · simp only [List.mem_cons, List.not_mem_nil, or_false] at hj
      rcases hj with rfl | rfl | rfl <;> omega
  · rintro ρ S ⟨is, x4, p', rfl, rfl, hb, hl, hp⟩
    have t0 := ht.sm0 ss.length
    dsimp only
    simp only [c_l_steps_2, sRet_eq, eOp_eq, eLst_eq, eCall_eq, aCons_eq, aNil_eq, eC_eq, eVar_s, eVar_0, bind_ok, p6, p12, oAdd_int, ws_sb, wp_bind]
    refine wp_draw hp (by omega) (by omega) (by omega) fun v p2 v0 v1 h2 => ?_
    simp only [wp_ok, wp_bind, bind_ok, oAdd_int, ws_sb]
    refine wp_draw h2 (by omega) (by omega) (by omega) fun u p3 u0 u1 h3 => ?_
    have zl : szOk ((is.map D.int).length + (0 + 1 + 1 + 1 + 1)) = true := gd_of (by simp; omega)
    obtain ⟨a, ha⟩ : ∃ a, a = sm (ss.take ss.length) := ⟨_, rfl⟩
    rw [← ha] at t0 ⊢
    have ap : is.map D.int ++ [D.int a, .int (a + 1), .int (a + v), .int (1000000000000 - u)] = (is ++ [a, a + 1, a + v, 1000000000000 - u]).map D.int := by simp
    simp only [wp_ok, wp_bind, bind_ok, oAdd_int, oSub_int, List.length_cons, List.length_nil, z4, if_true, oAdd_lst, zl, ap, ws_rt]
    refine ⟨Pn ns p3 T, [], .lst _, by simp, kp_pen, frz_pl 40 _ (pl_lst (pls_iff.mpr fun d hd => ?_)), q _ p3 (fun j hj => ?_) (by simp; omega) (h3.mono (by omega))⟩
    · obtain ⟨i, _, rfl⟩ := List.mem_map.mp hd
      simp only [Pl]
    · rcases List.mem_append.mp hj with hj | hj
      · exact hb j hj
      · simp only [List.mem_cons, List.not_mem_nil, or_false] at hj
        rcases hj with rfl | rfl | rfl | rfl <;> omega
theorem wp_full (h : Pk p k) (hk : k + 200 ≤ 1000000000000) (q : ∀ ss R p', Tok 40 ss R → Pk p' (k + 200) → Q (td ss R) (Pn ns p' T)) : Wp (F_l_full [.ob 0] (Pn ns p T)) Q E := by
  have z0 : szOk 0 = true := gd_of (by decide)
  have z1 : szOk (0 + 1) = true := gd_of (by decide)
  have z2 : szOk (0 + 1 + 1) = true := gd_of (by decide)
  have z3 : szOk (0 + 1 + 1 + 1) = true := gd_of (by decide)
  refine wp_run ?_
  show Ws (b_l_full [some (.ob 0), none, none, none, none, none, none, none, none, none] (Pn ns p T)) _
  unfold b_l_full
  refine ws_seq ?_
  simp only [c_l_full_0, sAsg_tp, eTup_eq, aCons_eq, aNil_eq, eCall_eq, eVar_s, eVar_0, bind_ok, ws_sb, wp_bind]
  refine wp_above h (by omega) fun R p1 R0 bR h1 => ?_
  simp only [wp_ok, wp_bind, bind_ok, eLstS_eq, aNil_eq, List.length_cons, List.length_nil, z0, z2, if_true, pn_app, pn_len]
  refine ws_seq ?_
  show Ws (c_l_full_1 [some (.ob 0), some (fq R), some (.ob (T.length + 1)), none, none, none, none, none, none, none] (Ps ns p1 T [])) _
  refine ws_forR (lo := 0) (n := 24) (S1 := Ps ns p1 T []) (iRng_ok (n := 24) rfl (by decide) _ _) (fun i ρ S => ∃ x3 x4 x5 x6 x7 x8 x9 ss p', ρ = [some (.ob 0), some (fq R), some (.ob (T.length + 1)), x3, x4, x5, x6, x7, x8, x9] ∧ S = Ps ns p' T ss ∧ Gs 8341 ss ∧ ss.length = i ∧ (ss.map Fx.St.m).sum ≤ 8333 * i + (if 24 ≤ i then 8 else 0) ∧ (∀ h : ss ≠ [], ¬ ((ss.getLast h).f = R ∧ (ss.getLast h).l = R)) ∧ Pk p' (k + 4 + 6 * i)) ⟨none, none, none, none, none, none, none, [], p1, rfl, rfl, .nil, rfl, by decide, fun h => absurd rfl h, h1.mono (by omega)⟩ ?_ ?_
  · rintro i hi ρ S ⟨x3, x4, x5, x6, x7, x8, x9, ss, p', rfl, rfl, g, hl, hsum, hlast, hp⟩
    refine ⟨_, put_nm _ _ _ _, ?_⟩
    simp only [List.set]
    obtain ⟨m, hm⟩ : ∃ m : Int, m = if i = 23 then 8341 else 8333 := ⟨_, rfl⟩
    have m1 : 1 ≤ m ∧ m ≤ 8341 := by rw [hm]; split <;> omega
    have at2 : atI [D.int 8333, .int 8341] (if ((0 + (i : Int)) == 23) then 1 else 0) = some (.int m) := by
      by_cases e : i = 23
      · rw [hm, if_pos e]
        have : ((0 + (i : Int)) == 23) = true := by rw [e]; rfl
        rw [this]; rfl
      · rw [hm, if_neg e]
        have : ((0 + (i : Int)) == 23) = false := by
          rw [beq_eq_false_iff_ne]; omega
        rw [this]; rfl
    refine ws_seq ?_
    simp only [c_l_full_1_0, sAsg_tp, eTup_eq, eOp_eq, eLst_eq, eB_eq, aCons_eq, aNil_eq, eCall_eq, eC_eq, eVar_s, eVar_0, bind_ok, oEq_int2, cInt_bl, List.length_cons, List.length_nil, z2, if_true, oIx_lst, at2, ws_sb, wp_bind]
    refine wp_above hp (by omega) fun f p2 f0 bf h2 => ?_
    simp only [wp_ok, wp_bind, bind_ok, ws_sb]
    refine wp_above h2 (by omega) fun l p3 l0 bl h3 => ?_
    simp only [wp_ok, wp_bind, bind_ok, List.length_cons, List.length_nil, z3, if_true]
    have cands : eLc (iRng (aCons (eC (.int 3)) aNil)) (.nm 8) cYes (eTup (aCons (eVar 4) (aCons (eVar 5) (aCons (eCall F_l_add (aCons (eVar 6) (aCons (eTup (aCons (eVar 8) (aCons (eC (.int 1)) aNil))) aNil))) aNil)))) [8] [some (.ob 0), some (fq R), some (.ob (T.length + 1)), some (.int (0 + i)), some (.int m), some (fq f), some (fq l), x7, x8, x9] (Ps ns p3 T ss) = .ok (.lst ((List.range 3).map fun j => sd (cand m f l j))) (Ps ns p3 T ss) := by
      refine lc_at (n := 3) (xs := fun j => .int (0 + (j : Nat))) (iRng_ok (n := 3) rfl (by decide) _ _) rfl (fun E i hi => isRng 0 3 _ i hi) (by decide) (fun j hj => (cn_sd (k := 33)).pl) fun j hj S2 => ?_
      refine ⟨_, put_nm _ _ _ _, ?_⟩
      have bj : Bq 10 ((j : Int) : Rat) := Bq_int (by omega) (by decide)
      have ad := fun S => l_add_ok bl bj (by decide) S
      simp only [wipeD, List.foldl, List.set, eTup_eq, aCons_eq, aNil_eq, eCall_eq, eC_eq, eVar_s, eVar_0, bind_ok, Int.zero_add, fq_int, ad, List.length_cons, List.length_nil, z2, z3, if_true]
      rfl
    refine ws_step (ρ' := [some (.ob 0), some (fq R), some (.ob (T.length + 1)), some (.int (0 + i)), some (.int m), some (fq f), some (fq l), some (.lst ((List.range 3).map fun j => sd (cand m f l j))), x8, x9]) (S' := Ps ns p3 T ss) (by
      simp only [c_l_full_1_1, sAsg_nm, cands, sb_ok, List.set]) ?_
    have em : ((List.range 3).map fun j => sd (cand m f l j)) = ((List.range 3).map (cand m f l)).map sd := by rw [List.map_map]; rfl
    obtain ⟨k1, hk1⟩ : ∃ k1 : Fx.St → Bool, k1 = fun c => !decide (c.f = R ∧ c.l = R) := ⟨_, rfl⟩
    obtain ⟨k2, hk2⟩ : ∃ k2 : Fx.St → Bool, k2 = fun c => if he : ss = [] then true else !decide ((ss.getLast he).l = c.f ∧ rise (ss.getLast he) = rise c) := ⟨_, rfl⟩
    have fil1 : eLc (iSeq (eVar 7)) (.nm 9) (tTru (eOp oNe (eSl (eVar 9) (pAt (eC (.int 1))) pNo) (eTup (aCons (eVar 1) (aCons (eVar 1) aNil))))) (eVar 9) [9] [some (.ob 0), some (fq R), some (.ob (T.length + 1)), some (.int (0 + i)), some (.int m), some (fq f), some (fq l), some (.lst ((List.range 3).map fun j => sd (cand m f l j))), x8, x9] (Ps ns p3 T ss) = .ok (.lst ((((List.range 3).map (cand m f l)).filter k1).map sd)) (Ps ns p3 T ss) := by
      refine lc_filter (qs := (List.range 3).map (cand m f l)) (g := sd) (it := .vlst ((List.range 3).map fun j => sd (cand m f l j))) (by simp only [iSeq_eq, eVar_s, eVar_0, bind_ok]) (.inr (by rw [em])) (by simp) (fun c _ => (cn_sd (k := 33)).pl) fun c hc S2 => ?_
      refine ⟨_, put_nm _ _ _ _, ?_⟩
      simp only [wipeD, List.foldl, List.set, tTru_eq, eOp_eq, eSl_eq, pAt_eq, pNo_eq, eTup_eq, aCons_eq, aNil_eq, eC_eq, eVar_s, eVar_0, bind_ok, sl1, List.length_cons, List.length_nil, z2, if_true, oNe_pair, truD_bl, hk1]
      exact ⟨trivial, fun _ => trivial⟩
    refine ws_step (ρ' := [some (.ob 0), some (fq R), some (.ob (T.length + 1)), some (.int (0 + i)), some (.int m), some (fq f), some (fq l), some (.lst ((((List.range 3).map (cand m f l)).filter k1).map sd)), x8, x9]) (S' := Ps ns p3 T ss) (by
      simp only [c_l_full_1_2, sAsg_nm, fil1, sb_ok, List.set]) ?_
    have sk : ∀ j, j < 3 → Sok 40 (cand m f l j) := fun j hj => by
      have c0 : (0 : Rat) ≤ ((j : Int) : Rat) := cnn (by omega)
      exact ⟨by decide, m1.1, by show m ≤ 200000; omega, f0, by show 0 < l + ((j : Int) : Rat); grind, bf.mono (by decide), Bq_addi bl (by omega) (by omega)⟩
    have fil2 : eLc (iSeq (eVar 7)) (.nm 9) (bOr (tTru (eOp oEq (eVar 2) (eLst aNil))) (bNot (tTru (eCall F_l_goes_on (aCons (eOp oIx (eVar 2) (eNeg (eC (.int 1)))) (aCons (eVar 9) aNil)))))) (eVar 9) [9] [some (.ob 0), some (fq R), some (.ob (T.length + 1)), some (.int (0 + i)), some (.int m), some (fq f), some (fq l), some (.lst ((((List.range 3).map (cand m f l)).filter k1).map sd)), x8, x9] (Ps ns p3 T ss) = .ok (.lst (((((List.range 3).map (cand m f l)).filter k1).filter k2).map sd)) (Ps ns p3 T ss) := by
      refine lc_filterS (qs := ((List.range 3).map (cand m f l)).filter k1) (g := sd) (it := .vlst ((((List.range 3).map (cand m f l)).filter k1).map sd)) (by simp only [iSeq_eq, eVar_s, eVar_0, bind_ok]) (.inr rfl) (Nat.le_trans (List.length_filter_le _ _) (by simp)) (fun c _ => (cn_sd (k := 33)).pl) fun c hc acc => ?_
      obtain ⟨j, hj, rfl⟩ := List.mem_map.mp (List.mem_filter.mp hc).1
      have sj := sk j (List.mem_range.mp hj)
      have sat : (Ps ns p3 T ss ++ [.lst acc])[T.length + 1]? = some (.lst (ss.map sd)) := by
        rw [List.getElem?_append_left (by simp [Ps, Pn])]
        exact ps_at
      have q1 := oEq_nilL sat fun _ => cn_sd
      refine ⟨_, put_nm _ _ _ _, ?_⟩
      simp only [wipeD, List.foldl, List.set, bOr_eq, bNot_eq, tTru_eq, eOp_eq, eLst_eq, eCall_eq, eNeg_eq, aCons_eq, aNil_eq, eC_eq, eVar_s, eVar_0, bind_ok, List.length_nil, z0, if_true, q1, truD_bl]
      by_cases he : ss = []
      · have ie : ss.isEmpty = true := by simpa using he
        simp only [ie, if_true, hk2, dif_pos he]
        exact ⟨trivial, fun _ => trivial⟩
      · have ie : ss.isEmpty = false := by simpa using he
        have al : oIx (.ob (T.length + 1)) (.int (-1)) (Ps ns p3 T ss ++ [.lst acc]) = .ok (sd (ss.getLast he)) (Ps ns p3 T ss ++ [.lst acc]) := by
          rw [oIx_obL sat, oIx_lst, at_last he]
        have go := fun S => l_goes_on_ok (g.all _ (List.getLast_mem he)).1 sj S
        simp only [ie, Bool.false_eq_true, if_false, al, bind_ok, go, truD_bl, hk2, dif_neg he]
        exact ⟨trivial, fun _ => trivial⟩
    refine ws_step (ρ' := [some (.ob 0), some (fq R), some (.ob (T.length + 1)), some (.int (0 + i)), some (.int m), some (fq f), some (fq l), some (.lst (((((List.range 3).map (cand m f l)).filter k1).filter k2).map sd)), x8, x9]) (S' := Ps ns p3 T ss) (by
      simp only [c_l_full_1_3, sAsg_nm, fil2, sb_ok, List.set]) ?_
    obtain ⟨x, hx⟩ : ∃ x : Rat, ∀ c, k2 c = false → rise c = x := by
      by_cases he : ss = []
      · exact ⟨0, fun c hc => by simp only [hk2, dif_pos he] at hc; cases hc⟩
      · refine ⟨rise (ss.getLast he), fun c hc => ?_⟩
        simp only [hk2, dif_neg he, Bool.not_eq_false', decide_eq_true_eq] at hc
        exact hc.2.symm
    obtain ⟨c, cs, ec, ⟨j, hj, hcj⟩, c1, c2⟩ := cand_some (m := m) (f := f) (l := l) (R := R) (k1 := k1) (k2 := k2) m1.1 (fun c hc => by simp only [hk1, Bool.not_eq_false', decide_eq_true_eq] at hc; exact hc.2) hx
    rw [ec]
    have sc : Sok 40 c := by rw [hcj]; exact sk j hj
    have mc : c.m = m := by rw [hcj]; rfl
    have ap := eApp_at (a := eVar 2) (b := eOp oIx (eVar 7) (eC (.int 0))) (ρ := [some (.ob 0), some (fq R), some (.ob (T.length + 1)), some (.int (0 + i)), some (.int m), some (fq f), some (fq l), some (.lst ((c :: cs).map sd)), x8, x9]) (S := Ps ns p3 T ss) (S2 := Ps ns p3 T ss) (n := T.length + 1) (d := sd c) rfl ps_at (by simp only [eOp_eq, eVar_s, eVar_0, eC_eq, bind_ok, oIx_lst, atI_0]; rfl) ps_at (by simp; omega)
    rw [ps_push] at ap
    simp only [c_l_full_1_4, sExpr_eq, ap, sb_ok, ws_nx]
    refine ⟨_, _, _, _, _, _, _, ss ++ [c], p3, rfl, rfl, g.snoc ⟨sc, by omega⟩ (fun he => ?_), by simp; omega, ?_, fun he => ?_, h3.mono (by omega)⟩
    · have hc := c2
      simp only [hk2, dif_neg he, Bool.not_eq_true', decide_eq_false_iff_not] at hc
      exact hc
    · rw [List.map_append, List.sum_append]
      simp only [List.map_cons, List.map_nil, List.sum_cons, List.sum_nil, mc]
      rw [hm]
      split at hsum <;> split <;> split <;> omega
    · have hc := c1
      simp only [hk1, Bool.not_eq_true', decide_eq_false_iff_not] at hc
      simpa using hc
  · rintro ρ S ⟨x3, x4, x5, x6, x7, x8, x9, ss, p', rfl, rfl, g, hl, hsum, hlast, hp⟩
    dsimp only
    simp only [c_l_full_2, sRet_eq, eTup_eq, aCons_eq, aNil_eq, eB_eq, eVar_s, eVar_0, bind_ok, cTuple_ob ps_at, List.length_cons, List.length_nil, z2, if_true, sb_ok, ws_rt]
    have hs : (ss.map Fx.St.m).sum ≤ 200000 := by simpa using hsum
    exact ⟨Pn ns p' T, [.lst (ss.map sd)], td ss R, rfl, kp_pen, frz_pl 40 _ pl_td, q _ _ _ (g.tok (by omega) hs R0 (bR.mono (by decide)) hlast) (hp.mono (by omega))⟩
end
end Lk08
set_option Elab.async false
set_option linter.all false
set_option maxRecDepth 100000
set_option exponentiation.threshold 20000
namespace Lk08
open PySem L2 DV Fx
section
variable {ns ms : List Int} {p : Int × Int} {T : Sto} {k : Nat} {Q : D → Sto → Prop} {E : Str → Sto → Prop} {R : Rat} {N : Pq} {ss : List Fx.St} {B : Nat}
theorem draw_ex {m : Int} (h : Pk p k) (hk : k ≤ 1000000000000) (hm : 0 < m) (hm2 : m.natAbs < 2 ^ 200) : ∃ v p', F_l_draw [.ob 0, .int m] (Pn ns p T) = .ok (.int v) (Pn ns p' T) ∧ 0 ≤ v ∧ v < m ∧ Pk p' (k + 1) := by
  obtain ⟨d, S, e, v, p', rfl, rfl, a, b, c⟩ := (wp_draw (T := T) (ns := ns) (Q := fun d S => ∃ v p', d = .int v ∧ S = Pn ns p' T ∧ 0 ≤ v ∧ v < m ∧ Pk p' (k + 1)) (E := fun _ _ => False) h hk hm hm2 fun v p' a b c => ⟨v, p', rfl, rfl, a, b, c⟩).get
  exact ⟨v, p', e, a, b, c⟩
theorem told_ok {ρ : Lc} {a b : EF} {i : Int} (h : Tok B ss R) (h0 : 0 ≤ i) (h1 : i < 2 ^ 40) (ha : ∀ S, a ρ S = .ok (td ss R) S) (hb : ∀ S, b ρ S = .ok (.int i) S) (S : Sto) :
    sIf (bNot (tTru (eCall F_l_same (aCons (eCall F_l_asked (aCons a (aCons b aNil))) (aCons (eTup (aCons (eC (.str "told")) (aCons (eCall F_l_length (aCons a (aCons b aNil))) aNil))) aNil))))) (sRet (eC (.bl false))) sNil ρ S = .nx ρ S := by
  have z2 : szOk (0 + 1 + 1) = true := gd_of (by decide)
  have e1 := fun S => asked_told h h0 S
  have e2 := fun S => l_length_ok h h0 h1 S
  have se : Se 12 (.tup [.str "told", fq (le ss R i)]) := se_tup (k := 11) (by simp) fun d hd => by
    simp only [List.mem_cons, List.not_mem_nil, or_false] at hd
    rcases hd with rfl | rfl
    · exact se_str (by decide +kernel)
    · exact se_fq
  have e3 := fun S => same_okD 12 se S
  simp only [sIf_eq, bNot_eq, tTru_eq, eCall_eq, eTup_eq, aCons_eq, aNil_eq, eC_eq, ha, hb, bind_ok, e1, e2, List.length_cons, List.length_nil, z2, if_true, e3, truD_bl, Bool.not_true, Bool.false_eq_true, if_false, sb_ok, sNil_eq]
theorem wp_full_right (h : Pk p k) (hk : k + 300 ≤ 1000000000000) (q : ∀ p', Pk p' (k + 300) → Q (.bl true) (Pn ns p' T)) : Wp (F_l_full_right [.ob 0] (Pn ns p T)) Q E := by
  have z4 : szOk (0 + 1 + 1 + 1 + 1) = true := gd_of (by decide)
  refine wp_run ?_
  show Ws (b_l_full_right [some (.ob 0), none, none] (Pn ns p T)) _
  unfold b_l_full_right
  refine ws_seq ?_
  simp only [c_l_full_right_0, sAsg_nm, eCall_eq, aCons_eq, aNil_eq, eVar_0, bind_ok, ws_sb]
  refine wp_full h (by omega) fun ss R p1 ht h1 => ?_
  simp only [ws_nx, List.set]
  refine ws_seq ?_
  obtain ⟨d, S1, e1, is, p2, rfl, rfl, hb, hl, h2⟩ := (wp_steps (T := T) (ns := ns) (Q := fun d S => ∃ (is : List Int) (p' : Int × Int), d = .lst (is.map D.int) ∧ S = Pn ns p' T ∧ (∀ i ∈ is, 0 ≤ i ∧ i ≤ 1000000000000) ∧ is.length ≤ 76 ∧ Pk p' (k + 230)) (E := fun _ _ => False) h1 (by omega) ht fun is p' a b c => ⟨is, p', rfl, rfl, a, b, c⟩).get
  obtain ⟨v, p3, e2, v0, v1, h3⟩ := draw_ex (ns := ns) (T := T) (m := 200000) h2 (by omega) (by decide) (by decide)
  have sl : ∀ S, oSl (.lst (is.map D.int)) (some (-19)) none S = .ok (.lst ((cutD is (some (-19)) none).map D.int)) S := fun S => by
    show Res.ok (D.lst (cutD (is.map D.int) (some (-19)) none)) S = _
    unfold cutD
    rw [List.length_map, List.map_take, List.map_drop]
  obtain ⟨js, hj⟩ : ∃ js, js = cutD is (some (-19)) none := ⟨_, rfl⟩
  rw [← hj] at sl
  have jb : ∀ i ∈ js, 0 ≤ i ∧ i ≤ 1000000000000 := fun i hi => hb i (cutD_mem' (by rw [← hj]; exact hi))
  have jl : js.length ≤ 76 := by
    have := cutD_len' (xs := is) (lo := some (-19)) (hi := none)
    rw [← hj] at this
    omega
  have za : szOk ((js.map D.int).length + (0 + 1 + 1 + 1 + 1)) = true := gd_of (by rw [List.length_map]; omega)
  have ap : js.map D.int ++ [D.int 0, .int 8332, .int 8333, .int v] = (js ++ [0, 8332, 8333, v]).map D.int := by simp
  refine ws_forV (qs := js ++ [0, 8332, 8333, v]) (g := D.int) (S1 := Pn ns p3 T) (it := .vlst ((js ++ [0, 8332, 8333, v]).map D.int)) (by
    simp only [iSeq_eq, eOp_eq, eSl_eq, pAt_eq, pNo_eq, eNeg_eq, eCall_eq, eLst_eq, aCons_eq, aNil_eq, eC_eq, eVar_s, eVar_0, bind_ok, e1, sl, e2, List.length_cons, List.length_nil, z4, if_true, oAdd_lst, za, ap]) (.inr rfl) (fun i ρ S => ∃ x2, ρ = [some (.ob 0), some (td ss R), x2] ∧ S = Pn ns p3 T) ⟨none, rfl, rfl⟩ ?_ ?_
  · rintro i hi ρ S ⟨x2, rfl, rfl⟩
    refine ⟨_, put_nm _ _ _ _, ?_⟩
    simp only [List.set]
    have ib : 0 ≤ (js ++ [0, 8332, 8333, v])[i] ∧ (js ++ [0, 8332, 8333, v])[i] ≤ 1000000000000 := by
      have m := List.getElem_mem hi
      rcases List.mem_append.mp m with m | m
      · exact jb _ m
      · generalize (js ++ [0, 8332, 8333, v])[i] = y at m
        simp only [List.mem_cons, List.not_mem_nil, or_false] at m
        omega
    generalize (js ++ [0, 8332, 8333, v])[i] = y at ib
    have t := told_ok (a := eVar 1) (b := eVar 2) (ρ := [some (.ob 0), some (td ss R), some (.int y)]) ht ib.1 (by omega) (fun S => rfl) (fun S => rfl)
    simp only [c_l_full_right_1_0, t, ws_nx]
    exact ⟨_, rfl, rfl⟩
  · rintro ρ S ⟨x2, rfl, rfl⟩
    simp only [c_l_full_right_2, sRet_eq, eC_eq, sb_ok, ws_rt]
    exact ⟨Pn ns p3 T, [], .bl true, by simp, kp_pen, by simp [frz], q p3 (h3.mono (by omega))⟩
theorem law_wp (ns : List Int) : Wp (F_law [.ro ns] []) (fun d _ => d = .bl true) fun _ _ => False := by
  have z1 : szOk (0 + 1) = true := gd_of (by decide)
  have z2 : szOk (0 + 1 + 1) = true := gd_of (by decide)
  have z3 : szOk (0 + 1 + 1 + 1) = true := gd_of (by decide)
  have z4 : szOk (0 + 1 + 1 + 1 + 1) = true := gd_of (by decide)
  have z10 : szOk (0 + 1 + 1 + 1 + 1 + 1 + 1 + 1 + 1 + 1 + 1) = true := gd_of (by decide)
  obtain ⟨ms, ep⟩ := pen_ok ns
  refine wp_run ?_
  show Ws (b_law [some (.ro ns), none, none, none, none, none, none, none] []) _
  unfold b_law
  refine ws_step (ρ' := [some (.ro ns), some (.ob 0), none, none, none, none, none, none]) (S' := Pn ms (0, 0) []) (by
    simp only [c_law_0, sAsg_nm, eCall_eq, aCons_eq, aNil_eq, eVar_0, bind_ok, ep, sb_ok, List.set]) ?_
  have h0 : Pk (0, 0) 0 := ⟨by decide, by decide⟩
  refine ws_seq ?_
  simp only [c_law_1, sAsg_nm, eCall_eq, aCons_eq, aNil_eq, eC_eq, eVar_s, eVar_0, bind_ok, ws_sb, wp_bind]
  refine wp_tempoI 6 rfl h0 (by decide) (by decide) fun s0 R p1 d0 h1 => ?_
  simp only [wp_ok, wp_bind, bind_ok, ws_sb]
  refine wp_twice h1 (by omega) d0 (by decide) fun ss p2 d1 h2 => ?_
  simp only [ws_nx, List.set]
  have ht0 : Tok 40 ss R := d1.tok (by decide) (by decide) (by decide) (by decide)
  have ht : Tok 44 ss R := ht0.mono (by decide) (by decide)
  refine ws_seq ?_
  simp only [c_law_2, sAsg_nm, eCall_eq, aCons_eq, aNil_eq, eC_eq, eVar_s, eVar_0, bind_ok, ws_sb]
  refine wp_near h2 (by omega) d1 fun so Ro p3 hto h3 => ?_
  simp only [ws_nx, List.set]
  have rw2 : Rw 40 (.tup [td ss R, td so Ro]) := by
    refine (show Rw (38 + 2) _ from ?_)
    simp only [Rw]
    exact (rws_iff (k := 38)).mpr fun d hd => by
      simp only [List.mem_cons, List.not_mem_nil, or_false] at hd
      rcases hd with rfl | rfl
      · exact rw_td (k := 29) ht (by decide)
      · exact rw_td (k := 29) hto (by decide)
  have ld2 : lD (.tup [td ss R, td so Ro]) ≤ 1000000 := by
    have a := ld_td ht (by decide)
    have b := ld_td hto (by decide)
    rw [lD_tup, lDs_cons, lDs_cons, lDs_nil]
    omega
  have er := fun S => repr_okW rw2 ld2 S
  have es := repr_strW rw2
  have eq := fun S => oEq_str es S
  generalize (pyD (D.tup [td ss R, td so Ro])).shown = Z at er es eq
  refine ws_step (ρ' := [some (.ro ns), some (.ob 0), some (td ss R), some (td so Ro), some (.str Z), none, none, none]) (S' := Pn ms p3 []) (by
    simp only [c_law_3, sAsg_nm, eB_eq, eTup_eq, aCons_eq, aNil_eq, eVar_s, eVar_0, bind_ok, List.length_cons, List.length_nil, z2, if_true, er, sb_ok, List.set]) ?_
  refine ws_seq ?_
  -- every step of both
  obtain ⟨d, S1, e1, is, p4, rfl, rfl, hb, hl, h4⟩ := (wp_steps (T := []) (ns := ms) (Q := fun d S => ∃ (is : List Int) (p' : Int × Int), d = .lst (is.map D.int) ∧ S = Pn ms p' [] ∧ (∀ i ∈ is, 0 ≤ i ∧ i ≤ 1000000000000) ∧ is.length ≤ 76 ∧ Pk p' (0 + 20 + 12 * 6 + 2 + 100 + 30)) (E := fun _ _ => False) h3 (by omega) ht fun is p' a b c => ⟨is, p', rfl, rfl, a, b, c⟩).get
  obtain ⟨d, S1, e2, js, p5, rfl, rfl, jb, jl, h5⟩ := (wp_steps (T := []) (ns := ms) (Q := fun d S => ∃ (is : List Int) (p' : Int × Int), d = .lst (is.map D.int) ∧ S = Pn ms p' [] ∧ (∀ i ∈ is, 0 ≤ i ∧ i ≤ 1000000000000) ∧ is.length ≤ 76 ∧ Pk p' (0 + 20 + 12 * 6 + 2 + 100 + 30 + 30)) (E := fun _ _ => False) h4 (by omega) hto fun is p' a b c => ⟨is, p', rfl, rfl, a, b, c⟩).get
  have za : szOk ((is.map D.int).length + (js.map D.int).length) = true := gd_of (by rw [List.length_map, List.length_map]; omega)
  refine ws_forV (qs := is ++ js) (g := D.int) (S1 := Pn ms p5 []) (it := .vlst ((is ++ js).map D.int)) (by
    simp only [iSeq_eq, eOp_eq, eCall_eq, aCons_eq, aNil_eq, eC_eq, eVar_s, eVar_0, bind_ok, e1, e2, oAdd_lst, za, if_true, List.map_append]) (.inr rfl) (fun i ρ S => ∃ x5 x6, ρ = [some (.ro ns), some (.ob 0), some (td ss R), some (td so Ro), some (.str Z), x5, x6, none] ∧ S = Pn ms p5 []) ⟨none, none, rfl, rfl⟩ ?_ ?_
  · rintro i hi ρ S ⟨x5, x6, rfl, rfl⟩
    refine ⟨_, put_nm _ _ _ _, ?_⟩
    simp only [List.set]
    have ib : 0 ≤ (is ++ js)[i] ∧ (is ++ js)[i] ≤ 1000000000000 := by
      rcases List.mem_append.mp (List.getElem_mem hi) with m | m
      · exact hb _ m
      · exact jb _ m
    generalize (is ++ js)[i] = y at ib
    refine ws_forV (qs := [(ss, R), (so, Ro), (ss, R)]) (g := fun q : List Fx.St × Rat => td q.1 q.2) (S1 := Pn ms p5 []) (it := .tup [td ss R, td so Ro, td ss R]) (by
      simp only [iSeq_eq, eTup_eq, aCons_eq, aNil_eq, eVar_s, eVar_0, bind_ok, List.length_cons, List.length_nil, z3, if_true]) (.inl rfl) (fun i ρ S => ∃ x6, ρ = [some (.ro ns), some (.ob 0), some (td ss R), some (td so Ro), some (.str Z), some (.int y), x6, none] ∧ S = Pn ms p5 []) ⟨_, rfl, rfl⟩ ?_ ?_
    · rintro j hj ρ S ⟨x6, rfl, rfl⟩
      refine ⟨_, put_nm _ _ _ _, ?_⟩
      simp only [List.set]
      have tj : Tok 44 ([(ss, R), (so, Ro), (ss, R)] : List (List Fx.St × Rat))[j].1 ([(ss, R), (so, Ro), (ss, R)] : List (List Fx.St × Rat))[j].2 := by
        match j, hj with
        | 0, _ => exact ht
        | 1, _ => exact hto
        | 2, _ => exact ht
      generalize ([(ss, R), (so, Ro), (ss, R)] : List (List Fx.St × Rat))[j] = w at tj
      have t := told_ok (a := eVar 6) (b := eVar 5) (ρ := [some (.ro ns), some (.ob 0), some (td ss R), some (td so Ro), some (.str Z), some (.int y), some (td w.1 w.2), none]) tj ib.1 (by omega) (fun S => rfl) (fun S => rfl)
      simp only [c_law_4_0_0, t, ws_nx]
      exact ⟨_, rfl, rfl⟩
    · rintro ρ S ⟨x6, rfl, rfl⟩
      exact ⟨_, _, rfl, rfl⟩
  · rintro ρ S ⟨x5, x6, rfl, rfl⟩
    dsimp only
    refine ws_seq ?_
    -- what is no step
    have p9 : ∀ S, oPow (.int 10) (.int 9) S = .ok (.int 1000000000) S := fun S => oPow_int S (by decide)
    obtain ⟨v, p6, e3, v0, v1, h6⟩ := draw_ex (ns := ms) (T := []) (m := 1000000000) h5 (by omega) (by decide) (by decide)
    have z0 : szOk 0 = true := gd_of (by decide)
    have cs : Cn 40 (.tup [.str "refused", .str "step"]) := by
      simp only [Cn, Cns, and_true]
      exact ⟨by decide +kernel, by decide +kernel⟩
    have ns0 : ∀ S, oNe (.tup [.str "refused", .str "step"]) (.tup [.str "refused", .str "step"]) S = .ok (.bl false) S := fun S => by rw [oNe_cn cs cs, gd_of rfl]; rfl
    obtain ⟨qs, hqs⟩ : ∃ qs : List D, qs = [.int (-1), .int (-1 - v), .bl true, .bl false, .non, .str "0", .tup [.int 0, .int 1], .tup [], .lst [], .dct []] := ⟨_, rfl⟩
    have bad : ∀ d ∈ qs, ∀ S, F_l_asked [td ss R, d] S = .ok (.tup [.str "refused", .str "step"]) S := fun d hd S => by
      rw [hqs] at hd
      simp only [List.mem_cons, List.not_mem_nil, or_false] at hd
      rcases hd with rfl | rfl | rfl | rfl | rfl | rfl | rfl | rfl | rfl | rfl
      · exact asked_neg ht (by decide) S
      · exact asked_neg ht (by omega) S
      · exact asked_step ht (show Ay 1 1 1 (.bl true) from trivial) rfl S
      · exact asked_step ht (show Ay 1 1 1 (.bl false) from trivial) rfl S
      · exact asked_step ht (show Ay 1 1 1 (.non) from trivial) rfl S
      · exact asked_step ht (show Ay 1 1 1 (.str "0") from ⟨by decide, by decide +kernel⟩) rfl S
      · exact asked_step (n := 41) (w := 60) (j := 2) ht (aypr (k := 0) (by decide) (by decide)) rfl S
      · exact asked_step (n := 1) (w := 1) (j := 1) ht (ay_tup (by simp) (by simp)) rfl S
      · exact asked_step (n := 1) (w := 1) (j := 1) ht (ay_lst (by simp) (by simp)) rfl S
      · exact asked_step ht (show Ay 1 1 1 (.dct []) from rfl) rfl S
    refine ws_forV (qs := qs) (g := id) (S1 := Pn ms p6 []) (it := .tup (qs.map id)) (by
      rw [List.map_id, hqs]
      simp only [iSeq_eq, eTup_eq, eLst_eq, eOp_eq, eNeg_eq, eCall_eq, aCons_eq, aNil_eq, eC_eq, eVar_s, eVar_0, bind_ok, p9, e3, oSub_int, List.length_cons, List.length_nil, z0, z2, z10, if_true]) (.inl rfl) (fun i ρ S => ∃ x7, ρ = [some (.ro ns), some (.ob 0), some (td ss R), some (td so Ro), some (.str Z), x5, x6, x7] ∧ S = Pn ms p6 []) ⟨_, rfl, rfl⟩ ?_ ?_
    · rintro i hi ρ S ⟨x7, rfl, rfl⟩
      refine ⟨_, put_nm _ _ _ _, ?_⟩
      have b := bad _ (List.getElem_mem hi)
      generalize qs[i] = y at b
      simp only [List.set, id, c_law_5_0, sIf_eq, tTru_eq, eOp_eq, eCall_eq, eTup_eq, aCons_eq, aNil_eq, eC_eq, eVar_s, eVar_0, bind_ok, b, List.length_cons, List.length_nil, z2, if_true, ns0, truD_bl, Bool.false_eq_true, if_false, sb_ok, sNil_eq, ws_nx]
      exact ⟨_, rfl, rfl⟩
    · rintro ρ S ⟨x7, rfl, rfl⟩
      dsimp only
      refine ws_seq ?_
      -- what is no tempo
      obtain ⟨d, S1, e4, ds, p7, rfl, rfl, db, dl, h7⟩ := (wp_bad (T := []) (ns := ms) (Q := fun d S => ∃ (ds : List D) (p' : Int × Int), d = .lst ds ∧ S = Pn ms p' [] ∧ (∀ d ∈ ds, Bad d) ∧ ds.length ≤ 19 ∧ Pk p' (0 + 20 + 12 * 6 + 2 + 100 + 30 + 30 + 1 + 104)) (E := fun _ _ => False) h6 (by omega) ht0 fun is p' a b c => ⟨is, p', rfl, rfl, a, b, c⟩).get
      have ct : Cn 38 (.tup [.str "refused", .str "tempo"]) := by
        simp only [Cn, Cns, and_true]
        exact ⟨by decide +kernel, by decide +kernel⟩
      obtain ⟨X, hX⟩ : ∃ X, X = D.tup [.str "refused", .str "tempo"] := ⟨_, rfl⟩
      have c4 : Cn 40 (.lst [X, X, X, X]) := by
        rw [hX]
        simp only [Cn, Cns, and_true]
        refine ⟨?_, ?_, ?_, ?_⟩ <;> exact ⟨by decide +kernel, by decide +kernel⟩
      have nt : ∀ S, oNe (.lst [X, X, X, X]) (.lst [X, X, X, X]) S = .ok (.bl false) S := fun S => by rw [oNe_cn c4 c4, gd_of rfl]; rfl
      have rep : ∀ S, oMul (.lst [X]) (.int 4) S = .ok (.lst [X, X, X, X]) S := fun S => by
        have g : (gd (0 ≤ (4 : Int) ∧ (4 : Int) ≤ 1000000) && szOk ([X].length * (4 : Int).toNat)) = true := by
          rw [gd_of (by decide), show szOk ([X].length * (4 : Int).toNat) = true from gd_of (by simp)]; rfl
        simp only [oMul, repD, lstOf, g, if_true]
        rfl
      refine ws_forV (qs := ds) (g := id) (S1 := Pn ms p7 []) (it := .vlst (ds.map id)) (by
        simp only [iSeq_eq, eCall_eq, aCons_eq, aNil_eq, eC_eq, eVar_s, eVar_0, bind_ok, e4, List.map_id]) (.inr rfl) (fun i ρ S => ∃ x6 p', ρ = [some (.ro ns), some (.ob 0), some (td ss R), some (td so Ro), some (.str Z), x5, x6, x7] ∧ S = Pn ms p' [] ∧ Pk p' (0 + 20 + 12 * 6 + 2 + 100 + 30 + 30 + 1 + 104 + i)) ⟨_, p7, rfl, rfl, h7⟩ ?_ ?_
      · rintro i hi ρ S ⟨x6, p', rfl, rfl, hp⟩
        refine ⟨_, put_nm _ _ _ _, ?_⟩
        have b := db _ (List.getElem_mem hi)
        generalize ds[i] = y at b
        obtain ⟨v, p8, e5, v0, v1, h8⟩ := draw_ex (ns := ms) (T := []) (m := 9) hp (by omega) (by decide) (by decide)
        have as := fun x S => asked_tempo (x := x) b.1 (by decide) b.2 S
        rw [← hX] at as
        have lc := lc_map (a := iSeq (eTup (aCons (eC (.int 0)) (aCons (eNeg (eC (.int 1))) (aCons (eC .non) (aCons (eCall F_l_draw (aCons (eVar 1) (aCons (eC (.int 9)) aNil))) aNil)))))) (it := .tup ([D.int 0, .int (-1), .non, .int v].map id)) (t := .nm 7) (e := eCall F_l_asked (aCons (eVar 6) (aCons (eVar 7) aNil))) (own := [7]) (ρ := [some (.ro ns), some (.ob 0), some (td ss R), some (td so Ro), some (.str Z), x5, some y, x7]) (S := Pn ms p' []) (S1 := Pn ms p8 []) (qs := [D.int 0, .int (-1), .non, .int v]) (g := id) (f := fun _ => X) (by
          simp only [iSeq_eq, eTup_eq, eNeg_eq, eCall_eq, aCons_eq, aNil_eq, eC_eq, eVar_s, eVar_0, bind_ok, e5, List.length_cons, List.length_nil, z4, if_true, List.map_id]) (.inl rfl) (by simp) (fun _ _ => by rw [hX]; exact ct.pl) fun d _ S2 => by
          refine ⟨_, put_nm _ _ _ _, ?_⟩
          simp only [wipeD, List.foldl, List.set, id, eCall_eq, aCons_eq, aNil_eq, eVar_s, eVar_0, bind_ok, as]
        have lc' : [D.int 0, .int (-1), .non, .int v].map (fun _ => X) = [X, X, X, X] := rfl
        rw [lc'] at lc
        simp only [List.set, id, c_law_6_0, sIf_eq, tTru_eq, eOp_eq, lc, eLst_eq, eTup_eq, aCons_eq, aNil_eq, eC_eq, bind_ok, List.length_cons, List.length_nil, z1, z2, if_true, ← hX, rep, nt, truD_bl, Bool.false_eq_true, if_false, sb_ok, sNil_eq, ws_nx]
        exact ⟨_, p8, rfl, rfl, h8⟩
      · rintro ρ S ⟨x6, p', rfl, rfl, hp⟩
        dsimp only
        have t := told_ok (a := eVar 2) (b := eC (.int 0)) (ρ := [some (.ro ns), some (.ob 0), some (td ss R), some (td so Ro), some (.str Z), x5, x6, x7]) ht (Int.le_refl 0) (by decide) (fun S => rfl) (fun S => rfl)
        refine ws_step (ρ' := [some (.ro ns), some (.ob 0), some (td ss R), some (td so Ro), some (.str Z), x5, x6, x7]) (S' := Pn ms p' []) (by
          simp only [c_law_7, t]) ?_
        simp only [c_law_8, sRet_eq, eAnd_eq, eOp_eq, eB_eq, eTup_eq, eCall_eq, aCons_eq, aNil_eq, eVar_s, eVar_0, bind_ok, List.length_cons, List.length_nil, z2, if_true, er, eq, truD_bl, ws_sb]
        refine wp_full_right hp (by omega) fun p9 h9 => ?_
        simp only [ws_rt]
        exact ⟨[], Pn ms p9 [], .bl true, rfl, ⟨rfl, fun i o h => by simp at h⟩, by simp [frz], rfl⟩
theorem law_true : ∀ ns : List Int, ns.length ≤ 63 → ∃ S, F_law [.ro ns] [] = .ok (.bl true) S := fun ns _ => by
  obtain ⟨d, S, e, rfl⟩ := (law_wp ns).get
  exact ⟨S, e⟩
end
end Lk08
set_option Elab.async false
set_option linter.all false
set_option maxRecDepth 100000
set_option maxHeartbeats 20000000
namespace Lk08
open PySem PySem.Spec PyProof.Rows L2 DV
theorem txt_mk {K : PySem.W.Frag} {h : Heap} {mg : Str → Option Value} (X : K.In h) (G : h.Ns mainGlobals mg)
    {f_is_whole : Addr} {od_is_whole an_is_whole : Option Addr} {sl_is_whole : Array (Option Value)} {oc_is_whole kV_is_whole dc_is_whole pm_is_whole cd_is_whole ct_is_whole : Value}
    (a_is_whole : PySem.W.nsIn K mainGlobals "is_whole" = some (some (.ref f_is_whole))) (l_is_whole : K.lookup f_is_whole = some ⟨oc_is_whole, od_is_whole, .func (PySem.W.fnOf "is_whole" "is_whole" (defArgs s_is_whole) (defBody s_is_whole) (defScope s_is_whole) .none kV_is_whole dc_is_whole pm_is_whole an_is_whole cd_is_whole ct_is_whole), sl_is_whole⟩) (c_is_whole : PySem.W.codeIn K cd_is_whole "is_whole" = true) (k_is_whole : PySem.W.keepIn K (.ref f_is_whole) = true)
    {f_is_whole_within : Addr} {od_is_whole_within an_is_whole_within : Option Addr} {sl_is_whole_within : Array (Option Value)} {oc_is_whole_within kV_is_whole_within dc_is_whole_within pm_is_whole_within cd_is_whole_within ct_is_whole_within : Value}
    (a_is_whole_within : PySem.W.nsIn K mainGlobals "is_whole_within" = some (some (.ref f_is_whole_within))) (l_is_whole_within : K.lookup f_is_whole_within = some ⟨oc_is_whole_within, od_is_whole_within, .func (PySem.W.fnOf "is_whole_within" "is_whole_within" (defArgs s_is_whole_within) (defBody s_is_whole_within) (defScope s_is_whole_within) .none kV_is_whole_within dc_is_whole_within pm_is_whole_within an_is_whole_within cd_is_whole_within ct_is_whole_within), sl_is_whole_within⟩) (c_is_whole_within : PySem.W.codeIn K cd_is_whole_within "is_whole_within" = true) (k_is_whole_within : PySem.W.keepIn K (.ref f_is_whole_within) = true)
    {f_is_tuple_of : Addr} {od_is_tuple_of an_is_tuple_of : Option Addr} {sl_is_tuple_of : Array (Option Value)} {oc_is_tuple_of kV_is_tuple_of dc_is_tuple_of pm_is_tuple_of cd_is_tuple_of ct_is_tuple_of : Value}
    (a_is_tuple_of : PySem.W.nsIn K mainGlobals "is_tuple_of" = some (some (.ref f_is_tuple_of))) (l_is_tuple_of : K.lookup f_is_tuple_of = some ⟨oc_is_tuple_of, od_is_tuple_of, .func (PySem.W.fnOf "is_tuple_of" "is_tuple_of" (defArgs s_is_tuple_of) (defBody s_is_tuple_of) (defScope s_is_tuple_of) .none kV_is_tuple_of dc_is_tuple_of pm_is_tuple_of an_is_tuple_of cd_is_tuple_of ct_is_tuple_of), sl_is_tuple_of⟩) (c_is_tuple_of : PySem.W.codeIn K cd_is_tuple_of "is_tuple_of" = true) (k_is_tuple_of : PySem.W.keepIn K (.ref f_is_tuple_of) = true)
    {f_is_fraction : Addr} {od_is_fraction an_is_fraction : Option Addr} {sl_is_fraction : Array (Option Value)} {oc_is_fraction kV_is_fraction dc_is_fraction pm_is_fraction cd_is_fraction ct_is_fraction : Value}
    (a_is_fraction : PySem.W.nsIn K mainGlobals "is_fraction" = some (some (.ref f_is_fraction))) (l_is_fraction : K.lookup f_is_fraction = some ⟨oc_is_fraction, od_is_fraction, .func (PySem.W.fnOf "is_fraction" "is_fraction" (defArgs s_is_fraction) (defBody s_is_fraction) (defScope s_is_fraction) .none kV_is_fraction dc_is_fraction pm_is_fraction an_is_fraction cd_is_fraction ct_is_fraction), sl_is_fraction⟩) (c_is_fraction : PySem.W.codeIn K cd_is_fraction "is_fraction" = true) (k_is_fraction : PySem.W.keepIn K (.ref f_is_fraction) = true)
    {f_in_lowest_terms : Addr} {od_in_lowest_terms an_in_lowest_terms : Option Addr} {sl_in_lowest_terms : Array (Option Value)} {oc_in_lowest_terms kV_in_lowest_terms dc_in_lowest_terms pm_in_lowest_terms cd_in_lowest_terms ct_in_lowest_terms : Value}
    (a_in_lowest_terms : PySem.W.nsIn K mainGlobals "in_lowest_terms" = some (some (.ref f_in_lowest_terms))) (l_in_lowest_terms : K.lookup f_in_lowest_terms = some ⟨oc_in_lowest_terms, od_in_lowest_terms, .func (PySem.W.fnOf "in_lowest_terms" "in_lowest_terms" (defArgs s_in_lowest_terms) (defBody s_in_lowest_terms) (defScope s_in_lowest_terms) .none kV_in_lowest_terms dc_in_lowest_terms pm_in_lowest_terms an_in_lowest_terms cd_in_lowest_terms ct_in_lowest_terms), sl_in_lowest_terms⟩) (c_in_lowest_terms : PySem.W.codeIn K cd_in_lowest_terms "in_lowest_terms" = true) (k_in_lowest_terms : PySem.W.keepIn K (.ref f_in_lowest_terms) = true)
    {f_minus : Addr} {od_minus an_minus : Option Addr} {sl_minus : Array (Option Value)} {oc_minus kV_minus dc_minus pm_minus cd_minus ct_minus : Value}
    (a_minus : PySem.W.nsIn K mainGlobals "minus" = some (some (.ref f_minus))) (l_minus : K.lookup f_minus = some ⟨oc_minus, od_minus, .func (PySem.W.fnOf "minus" "minus" (defArgs s_minus) (defBody s_minus) (defScope s_minus) .none kV_minus dc_minus pm_minus an_minus cd_minus ct_minus), sl_minus⟩) (c_minus : PySem.W.codeIn K cd_minus "minus" = true) (k_minus : PySem.W.keepIn K (.ref f_minus) = true)
    {f_line_of : Addr} {od_line_of an_line_of : Option Addr} {sl_line_of : Array (Option Value)} {oc_line_of kV_line_of dc_line_of pm_line_of cd_line_of ct_line_of : Value}
    (a_line_of : PySem.W.nsIn K mainGlobals "_line_of" = some (some (.ref f_line_of))) (l_line_of : K.lookup f_line_of = some ⟨oc_line_of, od_line_of, .func (PySem.W.fnOf "_line_of" "_line_of" (defArgs s_line_of) (defBody s_line_of) (defScope s_line_of) .none kV_line_of dc_line_of pm_line_of an_line_of cd_line_of ct_line_of), sl_line_of⟩) (c_line_of : PySem.W.codeIn K cd_line_of "_line_of" = true) (k_line_of : PySem.W.keepIn K (.ref f_line_of) = true)
    {f_l_pen : Addr} {od_l_pen an_l_pen : Option Addr} {sl_l_pen : Array (Option Value)} {oc_l_pen kV_l_pen dc_l_pen pm_l_pen cd_l_pen ct_l_pen : Value}
    (a_l_pen : PySem.W.nsIn K mainGlobals "_law_pen" = some (some (.ref f_l_pen))) (l_l_pen : K.lookup f_l_pen = some ⟨oc_l_pen, od_l_pen, .func (PySem.W.fnOf "_law_pen" "_law_pen" (defArgs s_l_pen) (defBody s_l_pen) (defScope s_l_pen) .none kV_l_pen dc_l_pen pm_l_pen an_l_pen cd_l_pen ct_l_pen), sl_l_pen⟩) (c_l_pen : PySem.W.codeIn K cd_l_pen "_law_pen" = true) (k_l_pen : PySem.W.keepIn K (.ref f_l_pen) = true)
    {f_l_draw : Addr} {od_l_draw an_l_draw : Option Addr} {sl_l_draw : Array (Option Value)} {oc_l_draw kV_l_draw dc_l_draw pm_l_draw cd_l_draw ct_l_draw : Value}
    (a_l_draw : PySem.W.nsIn K mainGlobals "_law_draw" = some (some (.ref f_l_draw))) (l_l_draw : K.lookup f_l_draw = some ⟨oc_l_draw, od_l_draw, .func (PySem.W.fnOf "_law_draw" "_law_draw" (defArgs s_l_draw) (defBody s_l_draw) (defScope s_l_draw) .none kV_l_draw dc_l_draw pm_l_draw an_l_draw cd_l_draw ct_l_draw), sl_l_draw⟩) (c_l_draw : PySem.W.codeIn K cd_l_draw "_law_draw" = true) (k_l_draw : PySem.W.keepIn K (.ref f_l_draw) = true)
    {f_l_low : Addr} {od_l_low an_l_low : Option Addr} {sl_l_low : Array (Option Value)} {oc_l_low kV_l_low dc_l_low pm_l_low cd_l_low ct_l_low : Value}
    (a_l_low : PySem.W.nsIn K mainGlobals "_law_low" = some (some (.ref f_l_low))) (l_l_low : K.lookup f_l_low = some ⟨oc_l_low, od_l_low, .func (PySem.W.fnOf "_law_low" "_law_low" (defArgs s_l_low) (defBody s_l_low) (defScope s_l_low) .none kV_l_low dc_l_low pm_l_low an_l_low cd_l_low ct_l_low), sl_l_low⟩) (c_l_low : PySem.W.codeIn K cd_l_low "_law_low" = true) (k_l_low : PySem.W.keepIn K (.ref f_l_low) = true)
    {f_l_same : Addr} {od_l_same an_l_same : Option Addr} {sl_l_same : Array (Option Value)} {oc_l_same kV_l_same dc_l_same pm_l_same cd_l_same ct_l_same : Value}
    (a_l_same : PySem.W.nsIn K mainGlobals "_law_same" = some (some (.ref f_l_same))) (l_l_same : K.lookup f_l_same = some ⟨oc_l_same, od_l_same, .func (PySem.W.fnOf "_law_same" "_law_same" (defArgs s_l_same) (defBody s_l_same) (defScope s_l_same) .none kV_l_same dc_l_same pm_l_same an_l_same cd_l_same ct_l_same), sl_l_same⟩) (c_l_same : PySem.W.codeIn K cd_l_same "_law_same" = true) (k_l_same : PySem.W.keepIn K (.ref f_l_same) = true)
    {f_l_word : Addr} {od_l_word an_l_word : Option Addr} {sl_l_word : Array (Option Value)} {oc_l_word kV_l_word dc_l_word pm_l_word cd_l_word ct_l_word : Value}
    (a_l_word : PySem.W.nsIn K mainGlobals "_law_word" = some (some (.ref f_l_word))) (l_l_word : K.lookup f_l_word = some ⟨oc_l_word, od_l_word, .func (PySem.W.fnOf "_law_word" "_law_word" (defArgs s_l_word) (defBody s_l_word) (defScope s_l_word) .none kV_l_word dc_l_word pm_l_word an_l_word cd_l_word ct_l_word), sl_l_word⟩) (c_l_word : PySem.W.codeIn K cd_l_word "_law_word" = true) (k_l_word : PySem.W.keepIn K (.ref f_l_word) = true)
    {f_is_above_nought : Addr} {od_is_above_nought an_is_above_nought : Option Addr} {sl_is_above_nought : Array (Option Value)} {oc_is_above_nought kV_is_above_nought dc_is_above_nought pm_is_above_nought cd_is_above_nought ct_is_above_nought : Value}
    (a_is_above_nought : PySem.W.nsIn K mainGlobals "is_above_nought" = some (some (.ref f_is_above_nought))) (l_is_above_nought : K.lookup f_is_above_nought = some ⟨oc_is_above_nought, od_is_above_nought, .func (PySem.W.fnOf "is_above_nought" "is_above_nought" (defArgs s_is_above_nought) (defBody s_is_above_nought) (defScope s_is_above_nought) .none kV_is_above_nought dc_is_above_nought pm_is_above_nought an_is_above_nought cd_is_above_nought ct_is_above_nought), sl_is_above_nought⟩) (c_is_above_nought : PySem.W.codeIn K cd_is_above_nought "is_above_nought" = true) (k_is_above_nought : PySem.W.keepIn K (.ref f_is_above_nought) = true)
    {f_over : Addr} {od_over an_over : Option Addr} {sl_over : Array (Option Value)} {oc_over kV_over dc_over pm_over cd_over ct_over : Value}
    (a_over : PySem.W.nsIn K mainGlobals "over" = some (some (.ref f_over))) (l_over : K.lookup f_over = some ⟨oc_over, od_over, .func (PySem.W.fnOf "over" "over" (defArgs s_over) (defBody s_over) (defScope s_over) .none kV_over dc_over pm_over an_over cd_over ct_over), sl_over⟩) (c_over : PySem.W.codeIn K cd_over "over" = true) (k_over : PySem.W.keepIn K (.ref f_over) = true)
    {f_length_within : Addr} {od_length_within an_length_within : Option Addr} {sl_length_within : Array (Option Value)} {oc_length_within kV_length_within dc_length_within pm_length_within cd_length_within ct_length_within : Value}
    (a_length_within : PySem.W.nsIn K mainGlobals "_length_within" = some (some (.ref f_length_within))) (l_length_within : K.lookup f_length_within = some ⟨oc_length_within, od_length_within, .func (PySem.W.fnOf "_length_within" "_length_within" (defArgs s_length_within) (defBody s_length_within) (defScope s_length_within) .none kV_length_within dc_length_within pm_length_within an_length_within cd_length_within ct_length_within), sl_length_within⟩) (c_length_within : PySem.W.codeIn K cd_length_within "_length_within" = true) (k_length_within : PySem.W.keepIn K (.ref f_length_within) = true)
    {f_l_add : Addr} {od_l_add an_l_add : Option Addr} {sl_l_add : Array (Option Value)} {oc_l_add kV_l_add dc_l_add pm_l_add cd_l_add ct_l_add : Value}
    (a_l_add : PySem.W.nsIn K mainGlobals "_law_add" = some (some (.ref f_l_add))) (l_l_add : K.lookup f_l_add = some ⟨oc_l_add, od_l_add, .func (PySem.W.fnOf "_law_add" "_law_add" (defArgs s_l_add) (defBody s_l_add) (defScope s_l_add) .none kV_l_add dc_l_add pm_l_add an_l_add cd_l_add ct_l_add), sl_l_add⟩) (c_l_add : PySem.W.codeIn K cd_l_add "_law_add" = true) (k_l_add : PySem.W.keepIn K (.ref f_l_add) = true)
    {f_l_sub : Addr} {od_l_sub an_l_sub : Option Addr} {sl_l_sub : Array (Option Value)} {oc_l_sub kV_l_sub dc_l_sub pm_l_sub cd_l_sub ct_l_sub : Value}
    (a_l_sub : PySem.W.nsIn K mainGlobals "_law_sub" = some (some (.ref f_l_sub))) (l_l_sub : K.lookup f_l_sub = some ⟨oc_l_sub, od_l_sub, .func (PySem.W.fnOf "_law_sub" "_law_sub" (defArgs s_l_sub) (defBody s_l_sub) (defScope s_l_sub) .none kV_l_sub dc_l_sub pm_l_sub an_l_sub cd_l_sub ct_l_sub), sl_l_sub⟩) (c_l_sub : PySem.W.codeIn K cd_l_sub "_law_sub" = true) (k_l_sub : PySem.W.keepIn K (.ref f_l_sub) = true)
    {f_l_mul : Addr} {od_l_mul an_l_mul : Option Addr} {sl_l_mul : Array (Option Value)} {oc_l_mul kV_l_mul dc_l_mul pm_l_mul cd_l_mul ct_l_mul : Value}
    (a_l_mul : PySem.W.nsIn K mainGlobals "_law_mul" = some (some (.ref f_l_mul))) (l_l_mul : K.lookup f_l_mul = some ⟨oc_l_mul, od_l_mul, .func (PySem.W.fnOf "_law_mul" "_law_mul" (defArgs s_l_mul) (defBody s_l_mul) (defScope s_l_mul) .none kV_l_mul dc_l_mul pm_l_mul an_l_mul cd_l_mul ct_l_mul), sl_l_mul⟩) (c_l_mul : PySem.W.codeIn K cd_l_mul "_law_mul" = true) (k_l_mul : PySem.W.keepIn K (.ref f_l_mul) = true)
    {f_l_above : Addr} {od_l_above an_l_above : Option Addr} {sl_l_above : Array (Option Value)} {oc_l_above kV_l_above dc_l_above pm_l_above cd_l_above ct_l_above : Value}
    (a_l_above : PySem.W.nsIn K mainGlobals "_law_above" = some (some (.ref f_l_above))) (l_l_above : K.lookup f_l_above = some ⟨oc_l_above, od_l_above, .func (PySem.W.fnOf "_law_above" "_law_above" (defArgs s_l_above) (defBody s_l_above) (defScope s_l_above) .none kV_l_above dc_l_above pm_l_above an_l_above cd_l_above ct_l_above), sl_l_above⟩) (c_l_above : PySem.W.codeIn K cd_l_above "_law_above" = true) (k_l_above : PySem.W.keepIn K (.ref f_l_above) = true)
    {f_l_steps : Addr} {od_l_steps an_l_steps : Option Addr} {sl_l_steps : Array (Option Value)} {oc_l_steps kV_l_steps dc_l_steps pm_l_steps cd_l_steps ct_l_steps : Value}
    (a_l_steps : PySem.W.nsIn K mainGlobals "_law_steps" = some (some (.ref f_l_steps))) (l_l_steps : K.lookup f_l_steps = some ⟨oc_l_steps, od_l_steps, .func (PySem.W.fnOf "_law_steps" "_law_steps" (defArgs s_l_steps) (defBody s_l_steps) (defScope s_l_steps) .none kV_l_steps dc_l_steps pm_l_steps an_l_steps cd_l_steps ct_l_steps), sl_l_steps⟩) (c_l_steps : PySem.W.codeIn K cd_l_steps "_law_steps" = true) (k_l_steps : PySem.W.keepIn K (.ref f_l_steps) = true)
    {f_l_bent : Addr} {od_l_bent an_l_bent : Option Addr} {sl_l_bent : Array (Option Value)} {oc_l_bent kV_l_bent dc_l_bent pm_l_bent cd_l_bent ct_l_bent : Value}
    (a_l_bent : PySem.W.nsIn K mainGlobals "_law_bent" = some (some (.ref f_l_bent))) (l_l_bent : K.lookup f_l_bent = some ⟨oc_l_bent, od_l_bent, .func (PySem.W.fnOf "_law_bent" "_law_bent" (defArgs s_l_bent) (defBody s_l_bent) (defScope s_l_bent) .none kV_l_bent dc_l_bent pm_l_bent an_l_bent cd_l_bent ct_l_bent), sl_l_bent⟩) (c_l_bent : PySem.W.codeIn K cd_l_bent "_law_bent" = true) (k_l_bent : PySem.W.keepIn K (.ref f_l_bent) = true)
    {f_is_stretch : Addr} {od_is_stretch an_is_stretch : Option Addr} {sl_is_stretch : Array (Option Value)} {oc_is_stretch kV_is_stretch dc_is_stretch pm_is_stretch cd_is_stretch ct_is_stretch : Value}
    (a_is_stretch : PySem.W.nsIn K mainGlobals "is_stretch" = some (some (.ref f_is_stretch))) (l_is_stretch : K.lookup f_is_stretch = some ⟨oc_is_stretch, od_is_stretch, .func (PySem.W.fnOf "is_stretch" "is_stretch" (defArgs s_is_stretch) (defBody s_is_stretch) (defScope s_is_stretch) .none kV_is_stretch dc_is_stretch pm_is_stretch an_is_stretch cd_is_stretch ct_is_stretch), sl_is_stretch⟩) (c_is_stretch : PySem.W.codeIn K cd_is_stretch "is_stretch" = true) (k_is_stretch : PySem.W.keepIn K (.ref f_is_stretch) = true)
    {f_length_at : Addr} {od_length_at an_length_at : Option Addr} {sl_length_at : Array (Option Value)} {oc_length_at kV_length_at dc_length_at pm_length_at cd_length_at ct_length_at : Value}
    (a_length_at : PySem.W.nsIn K mainGlobals "length_at" = some (some (.ref f_length_at))) (l_length_at : K.lookup f_length_at = some ⟨oc_length_at, od_length_at, .func (PySem.W.fnOf "length_at" "length_at" (defArgs s_length_at) (defBody s_length_at) (defScope s_length_at) .none kV_length_at dc_length_at pm_length_at an_length_at cd_length_at ct_length_at), sl_length_at⟩) (c_length_at : PySem.W.codeIn K cd_length_at "length_at" = true) (k_length_at : PySem.W.keepIn K (.ref f_length_at) = true)
    {f_rise_of : Addr} {od_rise_of an_rise_of : Option Addr} {sl_rise_of : Array (Option Value)} {oc_rise_of kV_rise_of dc_rise_of pm_rise_of cd_rise_of ct_rise_of : Value}
    (a_rise_of : PySem.W.nsIn K mainGlobals "_rise_of" = some (some (.ref f_rise_of))) (l_rise_of : K.lookup f_rise_of = some ⟨oc_rise_of, od_rise_of, .func (PySem.W.fnOf "_rise_of" "_rise_of" (defArgs s_rise_of) (defBody s_rise_of) (defScope s_rise_of) .none kV_rise_of dc_rise_of pm_rise_of an_rise_of cd_rise_of ct_rise_of), sl_rise_of⟩) (c_rise_of : PySem.W.codeIn K cd_rise_of "_rise_of" = true) (k_rise_of : PySem.W.keepIn K (.ref f_rise_of) = true)
    {f_l_goes_on : Addr} {od_l_goes_on an_l_goes_on : Option Addr} {sl_l_goes_on : Array (Option Value)} {oc_l_goes_on kV_l_goes_on dc_l_goes_on pm_l_goes_on cd_l_goes_on ct_l_goes_on : Value}
    (a_l_goes_on : PySem.W.nsIn K mainGlobals "_law_goes_on" = some (some (.ref f_l_goes_on))) (l_l_goes_on : K.lookup f_l_goes_on = some ⟨oc_l_goes_on, od_l_goes_on, .func (PySem.W.fnOf "_law_goes_on" "_law_goes_on" (defArgs s_l_goes_on) (defBody s_l_goes_on) (defScope s_l_goes_on) .none kV_l_goes_on dc_l_goes_on pm_l_goes_on an_l_goes_on cd_l_goes_on ct_l_goes_on), sl_l_goes_on⟩) (c_l_goes_on : PySem.W.codeIn K cd_l_goes_on "_law_goes_on" = true) (k_l_goes_on : PySem.W.keepIn K (.ref f_l_goes_on) = true)
    {f_l_line : Addr} {od_l_line an_l_line : Option Addr} {sl_l_line : Array (Option Value)} {oc_l_line kV_l_line dc_l_line pm_l_line cd_l_line ct_l_line : Value}
    (a_l_line : PySem.W.nsIn K mainGlobals "_law_line" = some (some (.ref f_l_line))) (l_l_line : K.lookup f_l_line = some ⟨oc_l_line, od_l_line, .func (PySem.W.fnOf "_law_line" "_law_line" (defArgs s_l_line) (defBody s_l_line) (defScope s_l_line) .none kV_l_line dc_l_line pm_l_line an_l_line cd_l_line ct_l_line), sl_l_line⟩) (c_l_line : PySem.W.codeIn K cd_l_line "_law_line" = true) (k_l_line : PySem.W.keepIn K (.ref f_l_line) = true)
    {f_goes_on : Addr} {od_goes_on an_goes_on : Option Addr} {sl_goes_on : Array (Option Value)} {oc_goes_on kV_goes_on dc_goes_on pm_goes_on cd_goes_on ct_goes_on : Value}
    (a_goes_on : PySem.W.nsIn K mainGlobals "goes_on" = some (some (.ref f_goes_on))) (l_goes_on : K.lookup f_goes_on = some ⟨oc_goes_on, od_goes_on, .func (PySem.W.fnOf "goes_on" "goes_on" (defArgs s_goes_on) (defBody s_goes_on) (defScope s_goes_on) .none kV_goes_on dc_goes_on pm_goes_on an_goes_on cd_goes_on ct_goes_on), sl_goes_on⟩) (c_goes_on : PySem.W.codeIn K cd_goes_on "goes_on" = true) (k_goes_on : PySem.W.keepIn K (.ref f_goes_on) = true)
    {f_l_tempo : Addr} {od_l_tempo an_l_tempo : Option Addr} {sl_l_tempo : Array (Option Value)} {oc_l_tempo kV_l_tempo dc_l_tempo pm_l_tempo cd_l_tempo ct_l_tempo : Value}
    (a_l_tempo : PySem.W.nsIn K mainGlobals "_law_tempo" = some (some (.ref f_l_tempo))) (l_l_tempo : K.lookup f_l_tempo = some ⟨oc_l_tempo, od_l_tempo, .func (PySem.W.fnOf "_law_tempo" "_law_tempo" (defArgs s_l_tempo) (defBody s_l_tempo) (defScope s_l_tempo) .none kV_l_tempo dc_l_tempo pm_l_tempo an_l_tempo cd_l_tempo ct_l_tempo), sl_l_tempo⟩) (c_l_tempo : PySem.W.codeIn K cd_l_tempo "_law_tempo" = true) (k_l_tempo : PySem.W.keepIn K (.ref f_l_tempo) = true)
    {f_l_length : Addr} {od_l_length an_l_length : Option Addr} {sl_l_length : Array (Option Value)} {oc_l_length kV_l_length dc_l_length pm_l_length cd_l_length ct_l_length : Value}
    (a_l_length : PySem.W.nsIn K mainGlobals "_law_length" = some (some (.ref f_l_length))) (l_l_length : K.lookup f_l_length = some ⟨oc_l_length, od_l_length, .func (PySem.W.fnOf "_law_length" "_law_length" (defArgs s_l_length) (defBody s_l_length) (defScope s_l_length) .none kV_l_length dc_l_length pm_l_length an_l_length cd_l_length ct_l_length), sl_l_length⟩) (c_l_length : PySem.W.codeIn K cd_l_length "_law_length" = true) (k_l_length : PySem.W.keepIn K (.ref f_l_length) = true)
    {f_l_full : Addr} {od_l_full an_l_full : Option Addr} {sl_l_full : Array (Option Value)} {oc_l_full kV_l_full dc_l_full pm_l_full cd_l_full ct_l_full : Value}
    (a_l_full : PySem.W.nsIn K mainGlobals "_law_full" = some (some (.ref f_l_full))) (l_l_full : K.lookup f_l_full = some ⟨oc_l_full, od_l_full, .func (PySem.W.fnOf "_law_full" "_law_full" (defArgs s_l_full) (defBody s_l_full) (defScope s_l_full) .none kV_l_full dc_l_full pm_l_full an_l_full cd_l_full ct_l_full), sl_l_full⟩) (c_l_full : PySem.W.codeIn K cd_l_full "_law_full" = true) (k_l_full : PySem.W.keepIn K (.ref f_l_full) = true)
    {f_l_twice : Addr} {od_l_twice an_l_twice : Option Addr} {sl_l_twice : Array (Option Value)} {oc_l_twice kV_l_twice dc_l_twice pm_l_twice cd_l_twice ct_l_twice : Value}
    (a_l_twice : PySem.W.nsIn K mainGlobals "_law_twice" = some (some (.ref f_l_twice))) (l_l_twice : K.lookup f_l_twice = some ⟨oc_l_twice, od_l_twice, .func (PySem.W.fnOf "_law_twice" "_law_twice" (defArgs s_l_twice) (defBody s_l_twice) (defScope s_l_twice) .none kV_l_twice dc_l_twice pm_l_twice an_l_twice cd_l_twice ct_l_twice), sl_l_twice⟩) (c_l_twice : PySem.W.codeIn K cd_l_twice "_law_twice" = true) (k_l_twice : PySem.W.keepIn K (.ref f_l_twice) = true)
    {f_is_plain : Addr} {od_is_plain an_is_plain : Option Addr} {sl_is_plain : Array (Option Value)} {oc_is_plain kV_is_plain dc_is_plain pm_is_plain cd_is_plain ct_is_plain : Value}
    (a_is_plain : PySem.W.nsIn K mainGlobals "_is_plain" = some (some (.ref f_is_plain))) (l_is_plain : K.lookup f_is_plain = some ⟨oc_is_plain, od_is_plain, .func (PySem.W.fnOf "_is_plain" "_is_plain" (defArgs s_is_plain) (defBody s_is_plain) (defScope s_is_plain) .none kV_is_plain dc_is_plain pm_is_plain an_is_plain cd_is_plain ct_is_plain), sl_is_plain⟩) (c_is_plain : PySem.W.codeIn K cd_is_plain "_is_plain" = true) (k_is_plain : PySem.W.keepIn K (.ref f_is_plain) = true)
    {f_l_near : Addr} {od_l_near an_l_near : Option Addr} {sl_l_near : Array (Option Value)} {oc_l_near kV_l_near dc_l_near pm_l_near cd_l_near ct_l_near : Value}
    (a_l_near : PySem.W.nsIn K mainGlobals "_law_near" = some (some (.ref f_l_near))) (l_l_near : K.lookup f_l_near = some ⟨oc_l_near, od_l_near, .func (PySem.W.fnOf "_law_near" "_law_near" (defArgs s_l_near) (defBody s_l_near) (defScope s_l_near) .none kV_l_near dc_l_near pm_l_near an_l_near cd_l_near ct_l_near), sl_l_near⟩) (c_l_near : PySem.W.codeIn K cd_l_near "_law_near" = true) (k_l_near : PySem.W.keepIn K (.ref f_l_near) = true)
    {f_is_tempo : Addr} {od_is_tempo an_is_tempo : Option Addr} {sl_is_tempo : Array (Option Value)} {oc_is_tempo kV_is_tempo dc_is_tempo pm_is_tempo cd_is_tempo ct_is_tempo : Value}
    (a_is_tempo : PySem.W.nsIn K mainGlobals "is_tempo" = some (some (.ref f_is_tempo))) (l_is_tempo : K.lookup f_is_tempo = some ⟨oc_is_tempo, od_is_tempo, .func (PySem.W.fnOf "is_tempo" "is_tempo" (defArgs s_is_tempo) (defBody s_is_tempo) (defScope s_is_tempo) .none kV_is_tempo dc_is_tempo pm_is_tempo an_is_tempo cd_is_tempo ct_is_tempo), sl_is_tempo⟩) (c_is_tempo : PySem.W.codeIn K cd_is_tempo "is_tempo" = true) (k_is_tempo : PySem.W.keepIn K (.ref f_is_tempo) = true)
    {f_refuse_no_tempo : Addr} {od_refuse_no_tempo an_refuse_no_tempo : Option Addr} {sl_refuse_no_tempo : Array (Option Value)} {oc_refuse_no_tempo kV_refuse_no_tempo dc_refuse_no_tempo pm_refuse_no_tempo cd_refuse_no_tempo ct_refuse_no_tempo : Value}
    (a_refuse_no_tempo : PySem.W.nsIn K mainGlobals "_refuse_no_tempo" = some (some (.ref f_refuse_no_tempo))) (l_refuse_no_tempo : K.lookup f_refuse_no_tempo = some ⟨oc_refuse_no_tempo, od_refuse_no_tempo, .func (PySem.W.fnOf "_refuse_no_tempo" "_refuse_no_tempo" (defArgs s_refuse_no_tempo) (defBody s_refuse_no_tempo) (defScope s_refuse_no_tempo) .none kV_refuse_no_tempo dc_refuse_no_tempo pm_refuse_no_tempo an_refuse_no_tempo cd_refuse_no_tempo ct_refuse_no_tempo), sl_refuse_no_tempo⟩) (c_refuse_no_tempo : PySem.W.codeIn K cd_refuse_no_tempo "_refuse_no_tempo" = true) (k_refuse_no_tempo : PySem.W.keepIn K (.ref f_refuse_no_tempo) = true)
    {f_l_bad_tempos : Addr} {od_l_bad_tempos an_l_bad_tempos : Option Addr} {sl_l_bad_tempos : Array (Option Value)} {oc_l_bad_tempos kV_l_bad_tempos dc_l_bad_tempos pm_l_bad_tempos cd_l_bad_tempos ct_l_bad_tempos : Value}
    (a_l_bad_tempos : PySem.W.nsIn K mainGlobals "_law_bad_tempos" = some (some (.ref f_l_bad_tempos))) (l_l_bad_tempos : K.lookup f_l_bad_tempos = some ⟨oc_l_bad_tempos, od_l_bad_tempos, .func (PySem.W.fnOf "_law_bad_tempos" "_law_bad_tempos" (defArgs s_l_bad_tempos) (defBody s_l_bad_tempos) (defScope s_l_bad_tempos) .none kV_l_bad_tempos dc_l_bad_tempos pm_l_bad_tempos an_l_bad_tempos cd_l_bad_tempos ct_l_bad_tempos), sl_l_bad_tempos⟩) (c_l_bad_tempos : PySem.W.codeIn K cd_l_bad_tempos "_law_bad_tempos" = true) (k_l_bad_tempos : PySem.W.keepIn K (.ref f_l_bad_tempos) = true)
    {f_length_of : Addr} {od_length_of an_length_of : Option Addr} {sl_length_of : Array (Option Value)} {oc_length_of kV_length_of dc_length_of pm_length_of cd_length_of ct_length_of : Value}
    (a_length_of : PySem.W.nsIn K mainGlobals "length_of" = some (some (.ref f_length_of))) (l_length_of : K.lookup f_length_of = some ⟨oc_length_of, od_length_of, .func (PySem.W.fnOf "length_of" "length_of" (defArgs s_length_of) (defBody s_length_of) (defScope s_length_of) .none kV_length_of dc_length_of pm_length_of an_length_of cd_length_of ct_length_of), sl_length_of⟩) (c_length_of : PySem.W.codeIn K cd_length_of "length_of" = true) (k_length_of : PySem.W.keepIn K (.ref f_length_of) = true)
    {f_l_asked : Addr} {od_l_asked an_l_asked : Option Addr} {sl_l_asked : Array (Option Value)} {oc_l_asked kV_l_asked dc_l_asked pm_l_asked cd_l_asked ct_l_asked : Value}
    (a_l_asked : PySem.W.nsIn K mainGlobals "_law_asked" = some (some (.ref f_l_asked))) (l_l_asked : K.lookup f_l_asked = some ⟨oc_l_asked, od_l_asked, .func (PySem.W.fnOf "_law_asked" "_law_asked" (defArgs s_l_asked) (defBody s_l_asked) (defScope s_l_asked) .none kV_l_asked dc_l_asked pm_l_asked an_l_asked cd_l_asked ct_l_asked), sl_l_asked⟩) (c_l_asked : PySem.W.codeIn K cd_l_asked "_law_asked" = true) (k_l_asked : PySem.W.keepIn K (.ref f_l_asked) = true)
    {f_l_full_right : Addr} {od_l_full_right an_l_full_right : Option Addr} {sl_l_full_right : Array (Option Value)} {oc_l_full_right kV_l_full_right dc_l_full_right pm_l_full_right cd_l_full_right ct_l_full_right : Value}
    (a_l_full_right : PySem.W.nsIn K mainGlobals "_law_full_right" = some (some (.ref f_l_full_right))) (l_l_full_right : K.lookup f_l_full_right = some ⟨oc_l_full_right, od_l_full_right, .func (PySem.W.fnOf "_law_full_right" "_law_full_right" (defArgs s_l_full_right) (defBody s_l_full_right) (defScope s_l_full_right) .none kV_l_full_right dc_l_full_right pm_l_full_right an_l_full_right cd_l_full_right ct_l_full_right), sl_l_full_right⟩) (c_l_full_right : PySem.W.codeIn K cd_l_full_right "_law_full_right" = true) (k_l_full_right : PySem.W.keepIn K (.ref f_l_full_right) = true)
    {f_law : Addr} {od_law an_law : Option Addr} {sl_law : Array (Option Value)} {oc_law kV_law dc_law pm_law cd_law ct_law : Value}
    (a_law : PySem.W.nsIn K mainGlobals "law" = some (some (.ref f_law))) (l_law : K.lookup f_law = some ⟨oc_law, od_law, .func (PySem.W.fnOf "law" "law" (defArgs s_law) (defBody s_law) (defScope s_law) .none kV_law dc_law pm_law an_law cd_law ct_law), sl_law⟩) (c_law : PySem.W.codeIn K cd_law "law" = true) (k_law : PySem.W.keepIn K (.ref f_law) = true)
    (z_ValueError : PySem.W.nsIn K mainGlobals "ValueError" = some none)
    (z_abs : PySem.W.nsIn K mainGlobals "abs" = some none)
    (z_all : PySem.W.nsIn K mainGlobals "all" = some none)
    (z_bool : PySem.W.nsIn K mainGlobals "bool" = some none)
    (z_int : PySem.W.nsIn K mainGlobals "int" = some none)
    (z_isinstance : PySem.W.nsIn K mainGlobals "isinstance" = some none)
    (z_len : PySem.W.nsIn K mainGlobals "len" = some none)
    (z_list : PySem.W.nsIn K mainGlobals "list" = some none)
    (z_range : PySem.W.nsIn K mainGlobals "range" = some none)
    (z_repr : PySem.W.nsIn K mainGlobals "repr" = some none)
    (z_str : PySem.W.nsIn K mainGlobals "str" = some none)
    (z_sum : PySem.W.nsIn K mainGlobals "sum" = some none)
    (z_tuple : PySem.W.nsIn K mainGlobals "tuple" = some none)
    (z_zip : PySem.W.nsIn K mainGlobals "zip" = some none)
    (m_gcd : PySem.W.nsIn K mainGlobals "gcd" = some (some (.builtin "math.gcd")))
    {t_MOST_STEPS : Tok} (m_MOST_STEPS : PySem.W.nsIn K mainGlobals "MOST_STEPS" = some (some (.int 200000 t_MOST_STEPS)))
    {t_MOST_STRETCHES : Tok} (m_MOST_STRETCHES : PySem.W.nsIn K mainGlobals "MOST_STRETCHES" = some (some (.int 24 t_MOST_STRETCHES)))
    {p_NOUGHT : Addr} {od_NOUGHT : Option Addr} {n_NOUGHT : Nat} {sl_NOUGHT : Array (Option Value)} {t0_NOUGHT t1_NOUGHT : Tok} (m_NOUGHT : PySem.W.nsIn K mainGlobals "NOUGHT" = some (some (.ref p_NOUGHT))) (l_NOUGHT : K.lookup p_NOUGHT = some ⟨.type "tuple", od_NOUGHT, .seq #[.int 0 t0_NOUGHT, .int 1 t1_NOUGHT] n_NOUGHT, sl_NOUGHT⟩)
    {C_NoFraction : Addr} (m_NoFraction : PySem.W.nsIn K mainGlobals "NoFraction" = some (some (.ref C_NoFraction))) (q_NoFraction : PySem.W.excIn K C_NoFraction [.type "ValueError", .type "Exception", .type "BaseException", .type "object"] "ValueError.__new__" = true) (k_NoFraction : PySem.W.keepIn K (.ref C_NoFraction) = true) (b_NoFraction : PySem.W.subIn K (.ref C_NoFraction) (.type "BaseException") = some true) (t_NoFraction : PySem.W.typeIn K (.ref C_NoFraction) = some (.type "type"))
    {C_NoStep : Addr} (m_NoStep : PySem.W.nsIn K mainGlobals "NoStep" = some (some (.ref C_NoStep))) (q_NoStep : PySem.W.excIn K C_NoStep [.type "ValueError", .type "Exception", .type "BaseException", .type "object"] "ValueError.__new__" = true) (k_NoStep : PySem.W.keepIn K (.ref C_NoStep) = true) (b_NoStep : PySem.W.subIn K (.ref C_NoStep) (.type "BaseException") = some true) (t_NoStep : PySem.W.typeIn K (.ref C_NoStep) = some (.type "type"))
    {C_NoTempo : Addr} (m_NoTempo : PySem.W.nsIn K mainGlobals "NoTempo" = some (some (.ref C_NoTempo))) (q_NoTempo : PySem.W.excIn K C_NoTempo [.type "ValueError", .type "Exception", .type "BaseException", .type "object"] "ValueError.__new__" = true) (k_NoTempo : PySem.W.keepIn K (.ref C_NoTempo) = true) (b_NoTempo : PySem.W.subIn K (.ref C_NoTempo) (.type "BaseException") = some true) (t_NoTempo : PySem.W.typeIn K (.ref C_NoTempo) = some (.type "type"))
    (ehn : PySem.W.specialIn K (.builtin "object.__class__") "__get__" = some (some (.builtin "getset_descriptor.__get__"))) (eht : PySem.W.takesIn K (.builtin "object.__class__") = some true)
    (ehg_NoFraction : PySem.W.findIn K (.ref C_NoFraction) "__getattribute__" = some (some (.builtin "BaseException.__getattribute__"))) (ehk_NoFraction : PySem.W.findIn K (.ref C_NoFraction) "__getattr__" = some none) (ehs_NoFraction : PySem.W.subIn K (.ref C_NoFraction) (.type "BaseException") = some true) (ehd_NoFraction : PySem.W.hasDictIn K C_NoFraction = true) (eha_NoFraction : PySem.W.findIn K (.ref C_NoFraction) "__class__" = some (some (.builtin "object.__class__"))) (ehm_NoFraction : PySem.W.mroIn K C_NoFraction (.type "object") = some true)
    (ehg_NoStep : PySem.W.findIn K (.ref C_NoStep) "__getattribute__" = some (some (.builtin "BaseException.__getattribute__"))) (ehk_NoStep : PySem.W.findIn K (.ref C_NoStep) "__getattr__" = some none) (ehs_NoStep : PySem.W.subIn K (.ref C_NoStep) (.type "BaseException") = some true) (ehd_NoStep : PySem.W.hasDictIn K C_NoStep = true) (eha_NoStep : PySem.W.findIn K (.ref C_NoStep) "__class__" = some (some (.builtin "object.__class__"))) (ehm_NoStep : PySem.W.mroIn K C_NoStep (.type "object") = some true)
    (ehg_NoTempo : PySem.W.findIn K (.ref C_NoTempo) "__getattribute__" = some (some (.builtin "BaseException.__getattribute__"))) (ehk_NoTempo : PySem.W.findIn K (.ref C_NoTempo) "__getattr__" = some none) (ehs_NoTempo : PySem.W.subIn K (.ref C_NoTempo) (.type "BaseException") = some true) (ehd_NoTempo : PySem.W.hasDictIn K C_NoTempo = true) (eha_NoTempo : PySem.W.findIn K (.ref C_NoTempo) "__class__" = some (some (.builtin "object.__class__"))) (ehm_NoTempo : PySem.W.mroIn K C_NoTempo (.type "object") = some true)
    {C_Full : Addr} (m_Full : PySem.W.nsIn K mainGlobals "Full" = some (some (.ref C_Full)))
    {C_LaneError : Addr} (m_LaneError : PySem.W.nsIn K mainGlobals "LaneError" = some (some (.ref C_LaneError)))
    {C_Leaned : Addr} (m_Leaned : PySem.W.nsIn K mainGlobals "Leaned" = some (some (.ref C_Leaned)))
    {C_NoCount : Addr} (m_NoCount : PySem.W.nsIn K mainGlobals "NoCount" = some (some (.ref C_NoCount)))
    {C_NoDeed : Addr} (m_NoDeed : PySem.W.nsIn K mainGlobals "NoDeed" = some (some (.ref C_NoDeed)))
    {C_NoFar : Addr} (m_NoFar : PySem.W.nsIn K mainGlobals "NoFar" = some (some (.ref C_NoFar)))
    {C_NoGlue : Addr} (m_NoGlue : PySem.W.nsIn K mainGlobals "NoGlue" = some (some (.ref C_NoGlue)))
    {C_NoLane : Addr} (m_NoLane : PySem.W.nsIn K mainGlobals "NoLane" = some (some (.ref C_NoLane)))
    {C_NoLevel : Addr} (m_NoLevel : PySem.W.nsIn K mainGlobals "NoLevel" = some (some (.ref C_NoLevel)))
    {C_NoLong : Addr} (m_NoLong : PySem.W.nsIn K mainGlobals "NoLong" = some (some (.ref C_NoLong)))
    {C_NoMoment : Addr} (m_NoMoment : PySem.W.nsIn K mainGlobals "NoMoment" = some (some (.ref C_NoMoment)))
    {C_NoName : Addr} (m_NoName : PySem.W.nsIn K mainGlobals "NoName" = some (some (.ref C_NoName)))
    {C_NoNumber : Addr} (m_NoNumber : PySem.W.nsIn K mainGlobals "NoNumber" = some (some (.ref C_NoNumber)))
    {C_NoPiece : Addr} (m_NoPiece : PySem.W.nsIn K mainGlobals "NoPiece" = some (some (.ref C_NoPiece)))
    {C_NoPlace : Addr} (m_NoPlace : PySem.W.nsIn K mainGlobals "NoPlace" = some (some (.ref C_NoPlace)))
    {C_NoRank : Addr} (m_NoRank : PySem.W.nsIn K mainGlobals "NoRank" = some (some (.ref C_NoRank)))
    {C_NoRow : Addr} (m_NoRow : PySem.W.nsIn K mainGlobals "NoRow" = some (some (.ref C_NoRow)))
    {C_NoSheet : Addr} (m_NoSheet : PySem.W.nsIn K mainGlobals "NoSheet" = some (some (.ref C_NoSheet)))
    {C_NoSide : Addr} (m_NoSide : PySem.W.nsIn K mainGlobals "NoSide" = some (some (.ref C_NoSide)))
    {C_NoTake : Addr} (m_NoTake : PySem.W.nsIn K mainGlobals "NoTake" = some (some (.ref C_NoTake)))
    {C_NoText : Addr} (m_NoText : PySem.W.nsIn K mainGlobals "NoText" = some (some (.ref C_NoText)))
    {C_NoVersion : Addr} (m_NoVersion : PySem.W.nsIn K mainGlobals "NoVersion" = some (some (.ref C_NoVersion)))
    {C_Taken : Addr} (m_Taken : PySem.W.nsIn K mainGlobals "Taken" = some (some (.ref C_Taken)))
    {C_TooMany : Addr} (m_TooMany : PySem.W.nsIn K mainGlobals "TooMany" = some (some (.ref C_TooMany)))
    {C_Used : Addr} (m_Used : PySem.W.nsIn K mainGlobals "Used" = some (some (.ref C_Used)))
    (yd_Full : PySem.W.hasDictIn K C_Full = true) (yt_Full : PySem.W.typeIn K (.ref C_Full) = some (.type "type"))
    (yd_LaneError : PySem.W.hasDictIn K C_LaneError = true) (yt_LaneError : PySem.W.typeIn K (.ref C_LaneError) = some (.type "type"))
    (yd_Leaned : PySem.W.hasDictIn K C_Leaned = true) (yt_Leaned : PySem.W.typeIn K (.ref C_Leaned) = some (.type "type"))
    (yd_NoCount : PySem.W.hasDictIn K C_NoCount = true) (yt_NoCount : PySem.W.typeIn K (.ref C_NoCount) = some (.type "type"))
    (yd_NoDeed : PySem.W.hasDictIn K C_NoDeed = true) (yt_NoDeed : PySem.W.typeIn K (.ref C_NoDeed) = some (.type "type"))
    (yd_NoFar : PySem.W.hasDictIn K C_NoFar = true) (yt_NoFar : PySem.W.typeIn K (.ref C_NoFar) = some (.type "type"))
    (yd_NoFraction : PySem.W.hasDictIn K C_NoFraction = true) (yt_NoFraction : PySem.W.typeIn K (.ref C_NoFraction) = some (.type "type"))
    (yd_NoGlue : PySem.W.hasDictIn K C_NoGlue = true) (yt_NoGlue : PySem.W.typeIn K (.ref C_NoGlue) = some (.type "type"))
    (yd_NoLane : PySem.W.hasDictIn K C_NoLane = true) (yt_NoLane : PySem.W.typeIn K (.ref C_NoLane) = some (.type "type"))
    (yd_NoLevel : PySem.W.hasDictIn K C_NoLevel = true) (yt_NoLevel : PySem.W.typeIn K (.ref C_NoLevel) = some (.type "type"))
    (yd_NoLong : PySem.W.hasDictIn K C_NoLong = true) (yt_NoLong : PySem.W.typeIn K (.ref C_NoLong) = some (.type "type"))
    (yd_NoMoment : PySem.W.hasDictIn K C_NoMoment = true) (yt_NoMoment : PySem.W.typeIn K (.ref C_NoMoment) = some (.type "type"))
    (yd_NoName : PySem.W.hasDictIn K C_NoName = true) (yt_NoName : PySem.W.typeIn K (.ref C_NoName) = some (.type "type"))
    (yd_NoNumber : PySem.W.hasDictIn K C_NoNumber = true) (yt_NoNumber : PySem.W.typeIn K (.ref C_NoNumber) = some (.type "type"))
    (yd_NoPiece : PySem.W.hasDictIn K C_NoPiece = true) (yt_NoPiece : PySem.W.typeIn K (.ref C_NoPiece) = some (.type "type"))
    (yd_NoPlace : PySem.W.hasDictIn K C_NoPlace = true) (yt_NoPlace : PySem.W.typeIn K (.ref C_NoPlace) = some (.type "type"))
    (yd_NoRank : PySem.W.hasDictIn K C_NoRank = true) (yt_NoRank : PySem.W.typeIn K (.ref C_NoRank) = some (.type "type"))
    (yd_NoRow : PySem.W.hasDictIn K C_NoRow = true) (yt_NoRow : PySem.W.typeIn K (.ref C_NoRow) = some (.type "type"))
    (yd_NoSheet : PySem.W.hasDictIn K C_NoSheet = true) (yt_NoSheet : PySem.W.typeIn K (.ref C_NoSheet) = some (.type "type"))
    (yd_NoSide : PySem.W.hasDictIn K C_NoSide = true) (yt_NoSide : PySem.W.typeIn K (.ref C_NoSide) = some (.type "type"))
    (yd_NoStep : PySem.W.hasDictIn K C_NoStep = true) (yt_NoStep : PySem.W.typeIn K (.ref C_NoStep) = some (.type "type"))
    (yd_NoTake : PySem.W.hasDictIn K C_NoTake = true) (yt_NoTake : PySem.W.typeIn K (.ref C_NoTake) = some (.type "type"))
    (yd_NoTempo : PySem.W.hasDictIn K C_NoTempo = true) (yt_NoTempo : PySem.W.typeIn K (.ref C_NoTempo) = some (.type "type"))
    (yd_NoText : PySem.W.hasDictIn K C_NoText = true) (yt_NoText : PySem.W.typeIn K (.ref C_NoText) = some (.type "type"))
    (yd_NoVersion : PySem.W.hasDictIn K C_NoVersion = true) (yt_NoVersion : PySem.W.typeIn K (.ref C_NoVersion) = some (.type "type"))
    (yd_Taken : PySem.W.hasDictIn K C_Taken = true) (yt_Taken : PySem.W.typeIn K (.ref C_Taken) = some (.type "type"))
    (yd_TooMany : PySem.W.hasDictIn K C_TooMany = true) (yt_TooMany : PySem.W.typeIn K (.ref C_TooMany) = some (.type "type"))
    (yd_Used : PySem.W.hasDictIn K C_Used = true) (yt_Used : PySem.W.typeIn K (.ref C_Used) = some (.type "type"))
    (yb_LaneError : PySem.W.subIn K (.ref C_LaneError) (.type "BaseException") = some true)
    (sx_NoFraction_Full : PySem.W.subIn K (.ref C_NoFraction) (.ref C_Full) = some false)
    (sx_NoFraction_LaneError : PySem.W.subIn K (.ref C_NoFraction) (.ref C_LaneError) = some true)
    (sx_NoFraction_Leaned : PySem.W.subIn K (.ref C_NoFraction) (.ref C_Leaned) = some false)
    (sx_NoFraction_NoCount : PySem.W.subIn K (.ref C_NoFraction) (.ref C_NoCount) = some false)
    (sx_NoFraction_NoDeed : PySem.W.subIn K (.ref C_NoFraction) (.ref C_NoDeed) = some false)
    (sx_NoFraction_NoFar : PySem.W.subIn K (.ref C_NoFraction) (.ref C_NoFar) = some false)
    (sx_NoFraction_NoFraction : PySem.W.subIn K (.ref C_NoFraction) (.ref C_NoFraction) = some true)
    (sx_NoFraction_NoGlue : PySem.W.subIn K (.ref C_NoFraction) (.ref C_NoGlue) = some false)
    (sx_NoFraction_NoLane : PySem.W.subIn K (.ref C_NoFraction) (.ref C_NoLane) = some false)
    (sx_NoFraction_NoLevel : PySem.W.subIn K (.ref C_NoFraction) (.ref C_NoLevel) = some false)
    (sx_NoFraction_NoLong : PySem.W.subIn K (.ref C_NoFraction) (.ref C_NoLong) = some false)
    (sx_NoFraction_NoMoment : PySem.W.subIn K (.ref C_NoFraction) (.ref C_NoMoment) = some false)
    (sx_NoFraction_NoName : PySem.W.subIn K (.ref C_NoFraction) (.ref C_NoName) = some false)
    (sx_NoFraction_NoNumber : PySem.W.subIn K (.ref C_NoFraction) (.ref C_NoNumber) = some false)
    (sx_NoFraction_NoPiece : PySem.W.subIn K (.ref C_NoFraction) (.ref C_NoPiece) = some false)
    (sx_NoFraction_NoPlace : PySem.W.subIn K (.ref C_NoFraction) (.ref C_NoPlace) = some false)
    (sx_NoFraction_NoRank : PySem.W.subIn K (.ref C_NoFraction) (.ref C_NoRank) = some false)
    (sx_NoFraction_NoRow : PySem.W.subIn K (.ref C_NoFraction) (.ref C_NoRow) = some false)
    (sx_NoFraction_NoSheet : PySem.W.subIn K (.ref C_NoFraction) (.ref C_NoSheet) = some false)
    (sx_NoFraction_NoSide : PySem.W.subIn K (.ref C_NoFraction) (.ref C_NoSide) = some false)
    (sx_NoFraction_NoStep : PySem.W.subIn K (.ref C_NoFraction) (.ref C_NoStep) = some false)
    (sx_NoFraction_NoTake : PySem.W.subIn K (.ref C_NoFraction) (.ref C_NoTake) = some false)
    (sx_NoFraction_NoTempo : PySem.W.subIn K (.ref C_NoFraction) (.ref C_NoTempo) = some false)
    (sx_NoFraction_NoText : PySem.W.subIn K (.ref C_NoFraction) (.ref C_NoText) = some false)
    (sx_NoFraction_NoVersion : PySem.W.subIn K (.ref C_NoFraction) (.ref C_NoVersion) = some false)
    (sx_NoFraction_Taken : PySem.W.subIn K (.ref C_NoFraction) (.ref C_Taken) = some false)
    (sx_NoFraction_TooMany : PySem.W.subIn K (.ref C_NoFraction) (.ref C_TooMany) = some false)
    (sx_NoFraction_Used : PySem.W.subIn K (.ref C_NoFraction) (.ref C_Used) = some false)
    (sx_NoFraction_ValueError : PySem.W.subIn K (.ref C_NoFraction) (.type "ValueError") = some true)
    (sx_NoStep_Full : PySem.W.subIn K (.ref C_NoStep) (.ref C_Full) = some false)
    (sx_NoStep_LaneError : PySem.W.subIn K (.ref C_NoStep) (.ref C_LaneError) = some true)
    (sx_NoStep_Leaned : PySem.W.subIn K (.ref C_NoStep) (.ref C_Leaned) = some false)
    (sx_NoStep_NoCount : PySem.W.subIn K (.ref C_NoStep) (.ref C_NoCount) = some false)
    (sx_NoStep_NoDeed : PySem.W.subIn K (.ref C_NoStep) (.ref C_NoDeed) = some false)
    (sx_NoStep_NoFar : PySem.W.subIn K (.ref C_NoStep) (.ref C_NoFar) = some false)
    (sx_NoStep_NoFraction : PySem.W.subIn K (.ref C_NoStep) (.ref C_NoFraction) = some false)
    (sx_NoStep_NoGlue : PySem.W.subIn K (.ref C_NoStep) (.ref C_NoGlue) = some false)
    (sx_NoStep_NoLane : PySem.W.subIn K (.ref C_NoStep) (.ref C_NoLane) = some false)
    (sx_NoStep_NoLevel : PySem.W.subIn K (.ref C_NoStep) (.ref C_NoLevel) = some false)
    (sx_NoStep_NoLong : PySem.W.subIn K (.ref C_NoStep) (.ref C_NoLong) = some false)
    (sx_NoStep_NoMoment : PySem.W.subIn K (.ref C_NoStep) (.ref C_NoMoment) = some false)
    (sx_NoStep_NoName : PySem.W.subIn K (.ref C_NoStep) (.ref C_NoName) = some false)
    (sx_NoStep_NoNumber : PySem.W.subIn K (.ref C_NoStep) (.ref C_NoNumber) = some false)
    (sx_NoStep_NoPiece : PySem.W.subIn K (.ref C_NoStep) (.ref C_NoPiece) = some false)
    (sx_NoStep_NoPlace : PySem.W.subIn K (.ref C_NoStep) (.ref C_NoPlace) = some false)
    (sx_NoStep_NoRank : PySem.W.subIn K (.ref C_NoStep) (.ref C_NoRank) = some false)
    (sx_NoStep_NoRow : PySem.W.subIn K (.ref C_NoStep) (.ref C_NoRow) = some false)
    (sx_NoStep_NoSheet : PySem.W.subIn K (.ref C_NoStep) (.ref C_NoSheet) = some false)
    (sx_NoStep_NoSide : PySem.W.subIn K (.ref C_NoStep) (.ref C_NoSide) = some false)
    (sx_NoStep_NoStep : PySem.W.subIn K (.ref C_NoStep) (.ref C_NoStep) = some true)
    (sx_NoStep_NoTake : PySem.W.subIn K (.ref C_NoStep) (.ref C_NoTake) = some false)
    (sx_NoStep_NoTempo : PySem.W.subIn K (.ref C_NoStep) (.ref C_NoTempo) = some false)
    (sx_NoStep_NoText : PySem.W.subIn K (.ref C_NoStep) (.ref C_NoText) = some false)
    (sx_NoStep_NoVersion : PySem.W.subIn K (.ref C_NoStep) (.ref C_NoVersion) = some false)
    (sx_NoStep_Taken : PySem.W.subIn K (.ref C_NoStep) (.ref C_Taken) = some false)
    (sx_NoStep_TooMany : PySem.W.subIn K (.ref C_NoStep) (.ref C_TooMany) = some false)
    (sx_NoStep_Used : PySem.W.subIn K (.ref C_NoStep) (.ref C_Used) = some false)
    (sx_NoStep_ValueError : PySem.W.subIn K (.ref C_NoStep) (.type "ValueError") = some true)
    (sx_NoTempo_Full : PySem.W.subIn K (.ref C_NoTempo) (.ref C_Full) = some false)
    (sx_NoTempo_LaneError : PySem.W.subIn K (.ref C_NoTempo) (.ref C_LaneError) = some true)
    (sx_NoTempo_Leaned : PySem.W.subIn K (.ref C_NoTempo) (.ref C_Leaned) = some false)
    (sx_NoTempo_NoCount : PySem.W.subIn K (.ref C_NoTempo) (.ref C_NoCount) = some false)
    (sx_NoTempo_NoDeed : PySem.W.subIn K (.ref C_NoTempo) (.ref C_NoDeed) = some false)
    (sx_NoTempo_NoFar : PySem.W.subIn K (.ref C_NoTempo) (.ref C_NoFar) = some false)
    (sx_NoTempo_NoFraction : PySem.W.subIn K (.ref C_NoTempo) (.ref C_NoFraction) = some false)
    (sx_NoTempo_NoGlue : PySem.W.subIn K (.ref C_NoTempo) (.ref C_NoGlue) = some false)
    (sx_NoTempo_NoLane : PySem.W.subIn K (.ref C_NoTempo) (.ref C_NoLane) = some false)
    (sx_NoTempo_NoLevel : PySem.W.subIn K (.ref C_NoTempo) (.ref C_NoLevel) = some false)
    (sx_NoTempo_NoLong : PySem.W.subIn K (.ref C_NoTempo) (.ref C_NoLong) = some false)
    (sx_NoTempo_NoMoment : PySem.W.subIn K (.ref C_NoTempo) (.ref C_NoMoment) = some false)
    (sx_NoTempo_NoName : PySem.W.subIn K (.ref C_NoTempo) (.ref C_NoName) = some false)
    (sx_NoTempo_NoNumber : PySem.W.subIn K (.ref C_NoTempo) (.ref C_NoNumber) = some false)
    (sx_NoTempo_NoPiece : PySem.W.subIn K (.ref C_NoTempo) (.ref C_NoPiece) = some false)
    (sx_NoTempo_NoPlace : PySem.W.subIn K (.ref C_NoTempo) (.ref C_NoPlace) = some false)
    (sx_NoTempo_NoRank : PySem.W.subIn K (.ref C_NoTempo) (.ref C_NoRank) = some false)
    (sx_NoTempo_NoRow : PySem.W.subIn K (.ref C_NoTempo) (.ref C_NoRow) = some false)
    (sx_NoTempo_NoSheet : PySem.W.subIn K (.ref C_NoTempo) (.ref C_NoSheet) = some false)
    (sx_NoTempo_NoSide : PySem.W.subIn K (.ref C_NoTempo) (.ref C_NoSide) = some false)
    (sx_NoTempo_NoStep : PySem.W.subIn K (.ref C_NoTempo) (.ref C_NoStep) = some false)
    (sx_NoTempo_NoTake : PySem.W.subIn K (.ref C_NoTempo) (.ref C_NoTake) = some false)
    (sx_NoTempo_NoTempo : PySem.W.subIn K (.ref C_NoTempo) (.ref C_NoTempo) = some true)
    (sx_NoTempo_NoText : PySem.W.subIn K (.ref C_NoTempo) (.ref C_NoText) = some false)
    (sx_NoTempo_NoVersion : PySem.W.subIn K (.ref C_NoTempo) (.ref C_NoVersion) = some false)
    (sx_NoTempo_Taken : PySem.W.subIn K (.ref C_NoTempo) (.ref C_Taken) = some false)
    (sx_NoTempo_TooMany : PySem.W.subIn K (.ref C_NoTempo) (.ref C_TooMany) = some false)
    (sx_NoTempo_Used : PySem.W.subIn K (.ref C_NoTempo) (.ref C_Used) = some false)
    (sx_NoTempo_ValueError : PySem.W.subIn K (.ref C_NoTempo) (.type "ValueError") = some true) : Txt K mg :=
  { z_ValueError := PySem.W.mg_none_of X G z_ValueError,
    z_abs := PySem.W.mg_none_of X G z_abs,
    z_all := PySem.W.mg_none_of X G z_all,
    z_bool := PySem.W.mg_none_of X G z_bool,
    z_int := PySem.W.mg_none_of X G z_int,
    z_isinstance := PySem.W.mg_none_of X G z_isinstance,
    z_len := PySem.W.mg_none_of X G z_len,
    z_list := PySem.W.mg_none_of X G z_list,
    z_range := PySem.W.mg_none_of X G z_range,
    z_repr := PySem.W.mg_none_of X G z_repr,
    z_str := PySem.W.mg_none_of X G z_str,
    z_sum := PySem.W.mg_none_of X G z_sum,
    z_tuple := PySem.W.mg_none_of X G z_tuple,
    z_zip := PySem.W.mg_none_of X G z_zip,
    g_MOST_STEPS := ⟨_, PySem.W.mg_of X G m_MOST_STEPS⟩,
    g_MOST_STRETCHES := ⟨_, PySem.W.mg_of X G m_MOST_STRETCHES⟩,
    g_NOUGHT := gtup_mk (vs := [.int (0), .int (1)]) (PySem.W.mg_of X G m_NOUGHT) l_NOUGHT (by simp [sizeLine_eq]) (by first | exact .cons ⟨_, rfl⟩ (.cons ⟨_, rfl⟩ (.nil))) (by first | exact fun _ _ _ => .cons (.int _) (.cons (.int _) (.nil))),
    m_gcd := PySem.W.mg_of X G m_gcd,
    x_NoFraction := ⟨⟨C_NoFraction, PySem.W.mg_of X G m_NoFraction, q_NoFraction, k_NoFraction, b_NoFraction, t_NoFraction⟩⟩,
    x_NoStep := ⟨⟨C_NoStep, PySem.W.mg_of X G m_NoStep, q_NoStep, k_NoStep, b_NoStep, t_NoStep⟩⟩,
    x_NoTempo := ⟨⟨C_NoTempo, PySem.W.mg_of X G m_NoTempo, q_NoTempo, k_NoTempo, b_NoTempo, t_NoTempo⟩⟩,
    h_LaneError := ⟨⟨C_LaneError, PySem.W.mg_of X G m_LaneError, (catch_cons (PySem.W.mg_of X G m_NoFraction) (exm_own yb_LaneError yd_LaneError yt_LaneError sx_NoFraction_LaneError) (catch_cons (PySem.W.mg_of X G m_NoStep) (exm_own yb_LaneError yd_LaneError yt_LaneError sx_NoStep_LaneError) (catch_cons (PySem.W.mg_of X G m_NoTempo) (exm_own yb_LaneError yd_LaneError yt_LaneError sx_NoTempo_LaneError) catch_nil)))⟩⟩,
    i_ValueError := (istab_cons (PySem.W.mg_of X G m_NoFraction) ⟨ehg_NoFraction, ehk_NoFraction, ehs_NoFraction, ehd_NoFraction, eha_NoFraction, ehn, eht, ehm_NoFraction⟩ (kitOne_ty (by decide +kernel) sx_NoFraction_ValueError) (istab_cons (PySem.W.mg_of X G m_NoStep) ⟨ehg_NoStep, ehk_NoStep, ehs_NoStep, ehd_NoStep, eha_NoStep, ehn, eht, ehm_NoStep⟩ (kitOne_ty (by decide +kernel) sx_NoStep_ValueError) (istab_cons (PySem.W.mg_of X G m_NoTempo) ⟨ehg_NoTempo, ehk_NoTempo, ehs_NoTempo, ehd_NoTempo, eha_NoTempo, ehn, eht, ehm_NoTempo⟩ (kitOne_ty (by decide +kernel) sx_NoTempo_ValueError) istab_nil))),
    i_Full := ⟨⟨C_Full, PySem.W.mg_of X G m_Full, (istab_cons (PySem.W.mg_of X G m_NoFraction) ⟨ehg_NoFraction, ehk_NoFraction, ehs_NoFraction, ehd_NoFraction, eha_NoFraction, ehn, eht, ehm_NoFraction⟩ (kitOne_own yd_Full yt_Full sx_NoFraction_NoFraction sx_NoFraction_Full) (istab_cons (PySem.W.mg_of X G m_NoStep) ⟨ehg_NoStep, ehk_NoStep, ehs_NoStep, ehd_NoStep, eha_NoStep, ehn, eht, ehm_NoStep⟩ (kitOne_own yd_Full yt_Full sx_NoStep_NoStep sx_NoStep_Full) (istab_cons (PySem.W.mg_of X G m_NoTempo) ⟨ehg_NoTempo, ehk_NoTempo, ehs_NoTempo, ehd_NoTempo, eha_NoTempo, ehn, eht, ehm_NoTempo⟩ (kitOne_own yd_Full yt_Full sx_NoTempo_NoTempo sx_NoTempo_Full) istab_nil)))⟩⟩,
    i_LaneError := ⟨⟨C_LaneError, PySem.W.mg_of X G m_LaneError, (istab_cons (PySem.W.mg_of X G m_NoFraction) ⟨ehg_NoFraction, ehk_NoFraction, ehs_NoFraction, ehd_NoFraction, eha_NoFraction, ehn, eht, ehm_NoFraction⟩ (kitOne_own yd_LaneError yt_LaneError sx_NoFraction_NoFraction sx_NoFraction_LaneError) (istab_cons (PySem.W.mg_of X G m_NoStep) ⟨ehg_NoStep, ehk_NoStep, ehs_NoStep, ehd_NoStep, eha_NoStep, ehn, eht, ehm_NoStep⟩ (kitOne_own yd_LaneError yt_LaneError sx_NoStep_NoStep sx_NoStep_LaneError) (istab_cons (PySem.W.mg_of X G m_NoTempo) ⟨ehg_NoTempo, ehk_NoTempo, ehs_NoTempo, ehd_NoTempo, eha_NoTempo, ehn, eht, ehm_NoTempo⟩ (kitOne_own yd_LaneError yt_LaneError sx_NoTempo_NoTempo sx_NoTempo_LaneError) istab_nil)))⟩⟩,
    i_Leaned := ⟨⟨C_Leaned, PySem.W.mg_of X G m_Leaned, (istab_cons (PySem.W.mg_of X G m_NoFraction) ⟨ehg_NoFraction, ehk_NoFraction, ehs_NoFraction, ehd_NoFraction, eha_NoFraction, ehn, eht, ehm_NoFraction⟩ (kitOne_own yd_Leaned yt_Leaned sx_NoFraction_NoFraction sx_NoFraction_Leaned) (istab_cons (PySem.W.mg_of X G m_NoStep) ⟨ehg_NoStep, ehk_NoStep, ehs_NoStep, ehd_NoStep, eha_NoStep, ehn, eht, ehm_NoStep⟩ (kitOne_own yd_Leaned yt_Leaned sx_NoStep_NoStep sx_NoStep_Leaned) (istab_cons (PySem.W.mg_of X G m_NoTempo) ⟨ehg_NoTempo, ehk_NoTempo, ehs_NoTempo, ehd_NoTempo, eha_NoTempo, ehn, eht, ehm_NoTempo⟩ (kitOne_own yd_Leaned yt_Leaned sx_NoTempo_NoTempo sx_NoTempo_Leaned) istab_nil)))⟩⟩,
    i_NoCount := ⟨⟨C_NoCount, PySem.W.mg_of X G m_NoCount, (istab_cons (PySem.W.mg_of X G m_NoFraction) ⟨ehg_NoFraction, ehk_NoFraction, ehs_NoFraction, ehd_NoFraction, eha_NoFraction, ehn, eht, ehm_NoFraction⟩ (kitOne_own yd_NoCount yt_NoCount sx_NoFraction_NoFraction sx_NoFraction_NoCount) (istab_cons (PySem.W.mg_of X G m_NoStep) ⟨ehg_NoStep, ehk_NoStep, ehs_NoStep, ehd_NoStep, eha_NoStep, ehn, eht, ehm_NoStep⟩ (kitOne_own yd_NoCount yt_NoCount sx_NoStep_NoStep sx_NoStep_NoCount) (istab_cons (PySem.W.mg_of X G m_NoTempo) ⟨ehg_NoTempo, ehk_NoTempo, ehs_NoTempo, ehd_NoTempo, eha_NoTempo, ehn, eht, ehm_NoTempo⟩ (kitOne_own yd_NoCount yt_NoCount sx_NoTempo_NoTempo sx_NoTempo_NoCount) istab_nil)))⟩⟩,
    i_NoDeed := ⟨⟨C_NoDeed, PySem.W.mg_of X G m_NoDeed, (istab_cons (PySem.W.mg_of X G m_NoFraction) ⟨ehg_NoFraction, ehk_NoFraction, ehs_NoFraction, ehd_NoFraction, eha_NoFraction, ehn, eht, ehm_NoFraction⟩ (kitOne_own yd_NoDeed yt_NoDeed sx_NoFraction_NoFraction sx_NoFraction_NoDeed) (istab_cons (PySem.W.mg_of X G m_NoStep) ⟨ehg_NoStep, ehk_NoStep, ehs_NoStep, ehd_NoStep, eha_NoStep, ehn, eht, ehm_NoStep⟩ (kitOne_own yd_NoDeed yt_NoDeed sx_NoStep_NoStep sx_NoStep_NoDeed) (istab_cons (PySem.W.mg_of X G m_NoTempo) ⟨ehg_NoTempo, ehk_NoTempo, ehs_NoTempo, ehd_NoTempo, eha_NoTempo, ehn, eht, ehm_NoTempo⟩ (kitOne_own yd_NoDeed yt_NoDeed sx_NoTempo_NoTempo sx_NoTempo_NoDeed) istab_nil)))⟩⟩,
    i_NoFar := ⟨⟨C_NoFar, PySem.W.mg_of X G m_NoFar, (istab_cons (PySem.W.mg_of X G m_NoFraction) ⟨ehg_NoFraction, ehk_NoFraction, ehs_NoFraction, ehd_NoFraction, eha_NoFraction, ehn, eht, ehm_NoFraction⟩ (kitOne_own yd_NoFar yt_NoFar sx_NoFraction_NoFraction sx_NoFraction_NoFar) (istab_cons (PySem.W.mg_of X G m_NoStep) ⟨ehg_NoStep, ehk_NoStep, ehs_NoStep, ehd_NoStep, eha_NoStep, ehn, eht, ehm_NoStep⟩ (kitOne_own yd_NoFar yt_NoFar sx_NoStep_NoStep sx_NoStep_NoFar) (istab_cons (PySem.W.mg_of X G m_NoTempo) ⟨ehg_NoTempo, ehk_NoTempo, ehs_NoTempo, ehd_NoTempo, eha_NoTempo, ehn, eht, ehm_NoTempo⟩ (kitOne_own yd_NoFar yt_NoFar sx_NoTempo_NoTempo sx_NoTempo_NoFar) istab_nil)))⟩⟩,
    i_NoFraction := ⟨⟨C_NoFraction, PySem.W.mg_of X G m_NoFraction, (istab_cons (PySem.W.mg_of X G m_NoFraction) ⟨ehg_NoFraction, ehk_NoFraction, ehs_NoFraction, ehd_NoFraction, eha_NoFraction, ehn, eht, ehm_NoFraction⟩ (kitOne_own yd_NoFraction yt_NoFraction sx_NoFraction_NoFraction sx_NoFraction_NoFraction) (istab_cons (PySem.W.mg_of X G m_NoStep) ⟨ehg_NoStep, ehk_NoStep, ehs_NoStep, ehd_NoStep, eha_NoStep, ehn, eht, ehm_NoStep⟩ (kitOne_own yd_NoFraction yt_NoFraction sx_NoStep_NoStep sx_NoStep_NoFraction) (istab_cons (PySem.W.mg_of X G m_NoTempo) ⟨ehg_NoTempo, ehk_NoTempo, ehs_NoTempo, ehd_NoTempo, eha_NoTempo, ehn, eht, ehm_NoTempo⟩ (kitOne_own yd_NoFraction yt_NoFraction sx_NoTempo_NoTempo sx_NoTempo_NoFraction) istab_nil)))⟩⟩,
    i_NoGlue := ⟨⟨C_NoGlue, PySem.W.mg_of X G m_NoGlue, (istab_cons (PySem.W.mg_of X G m_NoFraction) ⟨ehg_NoFraction, ehk_NoFraction, ehs_NoFraction, ehd_NoFraction, eha_NoFraction, ehn, eht, ehm_NoFraction⟩ (kitOne_own yd_NoGlue yt_NoGlue sx_NoFraction_NoFraction sx_NoFraction_NoGlue) (istab_cons (PySem.W.mg_of X G m_NoStep) ⟨ehg_NoStep, ehk_NoStep, ehs_NoStep, ehd_NoStep, eha_NoStep, ehn, eht, ehm_NoStep⟩ (kitOne_own yd_NoGlue yt_NoGlue sx_NoStep_NoStep sx_NoStep_NoGlue) (istab_cons (PySem.W.mg_of X G m_NoTempo) ⟨ehg_NoTempo, ehk_NoTempo, ehs_NoTempo, ehd_NoTempo, eha_NoTempo, ehn, eht, ehm_NoTempo⟩ (kitOne_own yd_NoGlue yt_NoGlue sx_NoTempo_NoTempo sx_NoTempo_NoGlue) istab_nil)))⟩⟩,
    i_NoLane := ⟨⟨C_NoLane, PySem.W.mg_of X G m_NoLane, (istab_cons (PySem.W.mg_of X G m_NoFraction) ⟨ehg_NoFraction, ehk_NoFraction, ehs_NoFraction, ehd_NoFraction, eha_NoFraction, ehn, eht, ehm_NoFraction⟩ (kitOne_own yd_NoLane yt_NoLane sx_NoFraction_NoFraction sx_NoFraction_NoLane) (istab_cons (PySem.W.mg_of X G m_NoStep) ⟨ehg_NoStep, ehk_NoStep, ehs_NoStep, ehd_NoStep, eha_NoStep, ehn, eht, ehm_NoStep⟩ (kitOne_own yd_NoLane yt_NoLane sx_NoStep_NoStep sx_NoStep_NoLane) (istab_cons (PySem.W.mg_of X G m_NoTempo) ⟨ehg_NoTempo, ehk_NoTempo, ehs_NoTempo, ehd_NoTempo, eha_NoTempo, ehn, eht, ehm_NoTempo⟩ (kitOne_own yd_NoLane yt_NoLane sx_NoTempo_NoTempo sx_NoTempo_NoLane) istab_nil)))⟩⟩,
    i_NoLevel := ⟨⟨C_NoLevel, PySem.W.mg_of X G m_NoLevel, (istab_cons (PySem.W.mg_of X G m_NoFraction) ⟨ehg_NoFraction, ehk_NoFraction, ehs_NoFraction, ehd_NoFraction, eha_NoFraction, ehn, eht, ehm_NoFraction⟩ (kitOne_own yd_NoLevel yt_NoLevel sx_NoFraction_NoFraction sx_NoFraction_NoLevel) (istab_cons (PySem.W.mg_of X G m_NoStep) ⟨ehg_NoStep, ehk_NoStep, ehs_NoStep, ehd_NoStep, eha_NoStep, ehn, eht, ehm_NoStep⟩ (kitOne_own yd_NoLevel yt_NoLevel sx_NoStep_NoStep sx_NoStep_NoLevel) (istab_cons (PySem.W.mg_of X G m_NoTempo) ⟨ehg_NoTempo, ehk_NoTempo, ehs_NoTempo, ehd_NoTempo, eha_NoTempo, ehn, eht, ehm_NoTempo⟩ (kitOne_own yd_NoLevel yt_NoLevel sx_NoTempo_NoTempo sx_NoTempo_NoLevel) istab_nil)))⟩⟩,
    i_NoLong := ⟨⟨C_NoLong, PySem.W.mg_of X G m_NoLong, (istab_cons (PySem.W.mg_of X G m_NoFraction) ⟨ehg_NoFraction, ehk_NoFraction, ehs_NoFraction, ehd_NoFraction, eha_NoFraction, ehn, eht, ehm_NoFraction⟩ (kitOne_own yd_NoLong yt_NoLong sx_NoFraction_NoFraction sx_NoFraction_NoLong) (istab_cons (PySem.W.mg_of X G m_NoStep) ⟨ehg_NoStep, ehk_NoStep, ehs_NoStep, ehd_NoStep, eha_NoStep, ehn, eht, ehm_NoStep⟩ (kitOne_own yd_NoLong yt_NoLong sx_NoStep_NoStep sx_NoStep_NoLong) (istab_cons (PySem.W.mg_of X G m_NoTempo) ⟨ehg_NoTempo, ehk_NoTempo, ehs_NoTempo, ehd_NoTempo, eha_NoTempo, ehn, eht, ehm_NoTempo⟩ (kitOne_own yd_NoLong yt_NoLong sx_NoTempo_NoTempo sx_NoTempo_NoLong) istab_nil)))⟩⟩,
    i_NoMoment := ⟨⟨C_NoMoment, PySem.W.mg_of X G m_NoMoment, (istab_cons (PySem.W.mg_of X G m_NoFraction) ⟨ehg_NoFraction, ehk_NoFraction, ehs_NoFraction, ehd_NoFraction, eha_NoFraction, ehn, eht, ehm_NoFraction⟩ (kitOne_own yd_NoMoment yt_NoMoment sx_NoFraction_NoFraction sx_NoFraction_NoMoment) (istab_cons (PySem.W.mg_of X G m_NoStep) ⟨ehg_NoStep, ehk_NoStep, ehs_NoStep, ehd_NoStep, eha_NoStep, ehn, eht, ehm_NoStep⟩ (kitOne_own yd_NoMoment yt_NoMoment sx_NoStep_NoStep sx_NoStep_NoMoment) (istab_cons (PySem.W.mg_of X G m_NoTempo) ⟨ehg_NoTempo, ehk_NoTempo, ehs_NoTempo, ehd_NoTempo, eha_NoTempo, ehn, eht, ehm_NoTempo⟩ (kitOne_own yd_NoMoment yt_NoMoment sx_NoTempo_NoTempo sx_NoTempo_NoMoment) istab_nil)))⟩⟩,
    i_NoName := ⟨⟨C_NoName, PySem.W.mg_of X G m_NoName, (istab_cons (PySem.W.mg_of X G m_NoFraction) ⟨ehg_NoFraction, ehk_NoFraction, ehs_NoFraction, ehd_NoFraction, eha_NoFraction, ehn, eht, ehm_NoFraction⟩ (kitOne_own yd_NoName yt_NoName sx_NoFraction_NoFraction sx_NoFraction_NoName) (istab_cons (PySem.W.mg_of X G m_NoStep) ⟨ehg_NoStep, ehk_NoStep, ehs_NoStep, ehd_NoStep, eha_NoStep, ehn, eht, ehm_NoStep⟩ (kitOne_own yd_NoName yt_NoName sx_NoStep_NoStep sx_NoStep_NoName) (istab_cons (PySem.W.mg_of X G m_NoTempo) ⟨ehg_NoTempo, ehk_NoTempo, ehs_NoTempo, ehd_NoTempo, eha_NoTempo, ehn, eht, ehm_NoTempo⟩ (kitOne_own yd_NoName yt_NoName sx_NoTempo_NoTempo sx_NoTempo_NoName) istab_nil)))⟩⟩,
    i_NoNumber := ⟨⟨C_NoNumber, PySem.W.mg_of X G m_NoNumber, (istab_cons (PySem.W.mg_of X G m_NoFraction) ⟨ehg_NoFraction, ehk_NoFraction, ehs_NoFraction, ehd_NoFraction, eha_NoFraction, ehn, eht, ehm_NoFraction⟩ (kitOne_own yd_NoNumber yt_NoNumber sx_NoFraction_NoFraction sx_NoFraction_NoNumber) (istab_cons (PySem.W.mg_of X G m_NoStep) ⟨ehg_NoStep, ehk_NoStep, ehs_NoStep, ehd_NoStep, eha_NoStep, ehn, eht, ehm_NoStep⟩ (kitOne_own yd_NoNumber yt_NoNumber sx_NoStep_NoStep sx_NoStep_NoNumber) (istab_cons (PySem.W.mg_of X G m_NoTempo) ⟨ehg_NoTempo, ehk_NoTempo, ehs_NoTempo, ehd_NoTempo, eha_NoTempo, ehn, eht, ehm_NoTempo⟩ (kitOne_own yd_NoNumber yt_NoNumber sx_NoTempo_NoTempo sx_NoTempo_NoNumber) istab_nil)))⟩⟩,
    i_NoPiece := ⟨⟨C_NoPiece, PySem.W.mg_of X G m_NoPiece, (istab_cons (PySem.W.mg_of X G m_NoFraction) ⟨ehg_NoFraction, ehk_NoFraction, ehs_NoFraction, ehd_NoFraction, eha_NoFraction, ehn, eht, ehm_NoFraction⟩ (kitOne_own yd_NoPiece yt_NoPiece sx_NoFraction_NoFraction sx_NoFraction_NoPiece) (istab_cons (PySem.W.mg_of X G m_NoStep) ⟨ehg_NoStep, ehk_NoStep, ehs_NoStep, ehd_NoStep, eha_NoStep, ehn, eht, ehm_NoStep⟩ (kitOne_own yd_NoPiece yt_NoPiece sx_NoStep_NoStep sx_NoStep_NoPiece) (istab_cons (PySem.W.mg_of X G m_NoTempo) ⟨ehg_NoTempo, ehk_NoTempo, ehs_NoTempo, ehd_NoTempo, eha_NoTempo, ehn, eht, ehm_NoTempo⟩ (kitOne_own yd_NoPiece yt_NoPiece sx_NoTempo_NoTempo sx_NoTempo_NoPiece) istab_nil)))⟩⟩,
    i_NoPlace := ⟨⟨C_NoPlace, PySem.W.mg_of X G m_NoPlace, (istab_cons (PySem.W.mg_of X G m_NoFraction) ⟨ehg_NoFraction, ehk_NoFraction, ehs_NoFraction, ehd_NoFraction, eha_NoFraction, ehn, eht, ehm_NoFraction⟩ (kitOne_own yd_NoPlace yt_NoPlace sx_NoFraction_NoFraction sx_NoFraction_NoPlace) (istab_cons (PySem.W.mg_of X G m_NoStep) ⟨ehg_NoStep, ehk_NoStep, ehs_NoStep, ehd_NoStep, eha_NoStep, ehn, eht, ehm_NoStep⟩ (kitOne_own yd_NoPlace yt_NoPlace sx_NoStep_NoStep sx_NoStep_NoPlace) (istab_cons (PySem.W.mg_of X G m_NoTempo) ⟨ehg_NoTempo, ehk_NoTempo, ehs_NoTempo, ehd_NoTempo, eha_NoTempo, ehn, eht, ehm_NoTempo⟩ (kitOne_own yd_NoPlace yt_NoPlace sx_NoTempo_NoTempo sx_NoTempo_NoPlace) istab_nil)))⟩⟩,
    i_NoRank := ⟨⟨C_NoRank, PySem.W.mg_of X G m_NoRank, (istab_cons (PySem.W.mg_of X G m_NoFraction) ⟨ehg_NoFraction, ehk_NoFraction, ehs_NoFraction, ehd_NoFraction, eha_NoFraction, ehn, eht, ehm_NoFraction⟩ (kitOne_own yd_NoRank yt_NoRank sx_NoFraction_NoFraction sx_NoFraction_NoRank) (istab_cons (PySem.W.mg_of X G m_NoStep) ⟨ehg_NoStep, ehk_NoStep, ehs_NoStep, ehd_NoStep, eha_NoStep, ehn, eht, ehm_NoStep⟩ (kitOne_own yd_NoRank yt_NoRank sx_NoStep_NoStep sx_NoStep_NoRank) (istab_cons (PySem.W.mg_of X G m_NoTempo) ⟨ehg_NoTempo, ehk_NoTempo, ehs_NoTempo, ehd_NoTempo, eha_NoTempo, ehn, eht, ehm_NoTempo⟩ (kitOne_own yd_NoRank yt_NoRank sx_NoTempo_NoTempo sx_NoTempo_NoRank) istab_nil)))⟩⟩,
    i_NoRow := ⟨⟨C_NoRow, PySem.W.mg_of X G m_NoRow, (istab_cons (PySem.W.mg_of X G m_NoFraction) ⟨ehg_NoFraction, ehk_NoFraction, ehs_NoFraction, ehd_NoFraction, eha_NoFraction, ehn, eht, ehm_NoFraction⟩ (kitOne_own yd_NoRow yt_NoRow sx_NoFraction_NoFraction sx_NoFraction_NoRow) (istab_cons (PySem.W.mg_of X G m_NoStep) ⟨ehg_NoStep, ehk_NoStep, ehs_NoStep, ehd_NoStep, eha_NoStep, ehn, eht, ehm_NoStep⟩ (kitOne_own yd_NoRow yt_NoRow sx_NoStep_NoStep sx_NoStep_NoRow) (istab_cons (PySem.W.mg_of X G m_NoTempo) ⟨ehg_NoTempo, ehk_NoTempo, ehs_NoTempo, ehd_NoTempo, eha_NoTempo, ehn, eht, ehm_NoTempo⟩ (kitOne_own yd_NoRow yt_NoRow sx_NoTempo_NoTempo sx_NoTempo_NoRow) istab_nil)))⟩⟩,
    i_NoSheet := ⟨⟨C_NoSheet, PySem.W.mg_of X G m_NoSheet, (istab_cons (PySem.W.mg_of X G m_NoFraction) ⟨ehg_NoFraction, ehk_NoFraction, ehs_NoFraction, ehd_NoFraction, eha_NoFraction, ehn, eht, ehm_NoFraction⟩ (kitOne_own yd_NoSheet yt_NoSheet sx_NoFraction_NoFraction sx_NoFraction_NoSheet) (istab_cons (PySem.W.mg_of X G m_NoStep) ⟨ehg_NoStep, ehk_NoStep, ehs_NoStep, ehd_NoStep, eha_NoStep, ehn, eht, ehm_NoStep⟩ (kitOne_own yd_NoSheet yt_NoSheet sx_NoStep_NoStep sx_NoStep_NoSheet) (istab_cons (PySem.W.mg_of X G m_NoTempo) ⟨ehg_NoTempo, ehk_NoTempo, ehs_NoTempo, ehd_NoTempo, eha_NoTempo, ehn, eht, ehm_NoTempo⟩ (kitOne_own yd_NoSheet yt_NoSheet sx_NoTempo_NoTempo sx_NoTempo_NoSheet) istab_nil)))⟩⟩,
    i_NoSide := ⟨⟨C_NoSide, PySem.W.mg_of X G m_NoSide, (istab_cons (PySem.W.mg_of X G m_NoFraction) ⟨ehg_NoFraction, ehk_NoFraction, ehs_NoFraction, ehd_NoFraction, eha_NoFraction, ehn, eht, ehm_NoFraction⟩ (kitOne_own yd_NoSide yt_NoSide sx_NoFraction_NoFraction sx_NoFraction_NoSide) (istab_cons (PySem.W.mg_of X G m_NoStep) ⟨ehg_NoStep, ehk_NoStep, ehs_NoStep, ehd_NoStep, eha_NoStep, ehn, eht, ehm_NoStep⟩ (kitOne_own yd_NoSide yt_NoSide sx_NoStep_NoStep sx_NoStep_NoSide) (istab_cons (PySem.W.mg_of X G m_NoTempo) ⟨ehg_NoTempo, ehk_NoTempo, ehs_NoTempo, ehd_NoTempo, eha_NoTempo, ehn, eht, ehm_NoTempo⟩ (kitOne_own yd_NoSide yt_NoSide sx_NoTempo_NoTempo sx_NoTempo_NoSide) istab_nil)))⟩⟩,
    i_NoStep := ⟨⟨C_NoStep, PySem.W.mg_of X G m_NoStep, (istab_cons (PySem.W.mg_of X G m_NoFraction) ⟨ehg_NoFraction, ehk_NoFraction, ehs_NoFraction, ehd_NoFraction, eha_NoFraction, ehn, eht, ehm_NoFraction⟩ (kitOne_own yd_NoStep yt_NoStep sx_NoFraction_NoFraction sx_NoFraction_NoStep) (istab_cons (PySem.W.mg_of X G m_NoStep) ⟨ehg_NoStep, ehk_NoStep, ehs_NoStep, ehd_NoStep, eha_NoStep, ehn, eht, ehm_NoStep⟩ (kitOne_own yd_NoStep yt_NoStep sx_NoStep_NoStep sx_NoStep_NoStep) (istab_cons (PySem.W.mg_of X G m_NoTempo) ⟨ehg_NoTempo, ehk_NoTempo, ehs_NoTempo, ehd_NoTempo, eha_NoTempo, ehn, eht, ehm_NoTempo⟩ (kitOne_own yd_NoStep yt_NoStep sx_NoTempo_NoTempo sx_NoTempo_NoStep) istab_nil)))⟩⟩,
    i_NoTake := ⟨⟨C_NoTake, PySem.W.mg_of X G m_NoTake, (istab_cons (PySem.W.mg_of X G m_NoFraction) ⟨ehg_NoFraction, ehk_NoFraction, ehs_NoFraction, ehd_NoFraction, eha_NoFraction, ehn, eht, ehm_NoFraction⟩ (kitOne_own yd_NoTake yt_NoTake sx_NoFraction_NoFraction sx_NoFraction_NoTake) (istab_cons (PySem.W.mg_of X G m_NoStep) ⟨ehg_NoStep, ehk_NoStep, ehs_NoStep, ehd_NoStep, eha_NoStep, ehn, eht, ehm_NoStep⟩ (kitOne_own yd_NoTake yt_NoTake sx_NoStep_NoStep sx_NoStep_NoTake) (istab_cons (PySem.W.mg_of X G m_NoTempo) ⟨ehg_NoTempo, ehk_NoTempo, ehs_NoTempo, ehd_NoTempo, eha_NoTempo, ehn, eht, ehm_NoTempo⟩ (kitOne_own yd_NoTake yt_NoTake sx_NoTempo_NoTempo sx_NoTempo_NoTake) istab_nil)))⟩⟩,
    i_NoTempo := ⟨⟨C_NoTempo, PySem.W.mg_of X G m_NoTempo, (istab_cons (PySem.W.mg_of X G m_NoFraction) ⟨ehg_NoFraction, ehk_NoFraction, ehs_NoFraction, ehd_NoFraction, eha_NoFraction, ehn, eht, ehm_NoFraction⟩ (kitOne_own yd_NoTempo yt_NoTempo sx_NoFraction_NoFraction sx_NoFraction_NoTempo) (istab_cons (PySem.W.mg_of X G m_NoStep) ⟨ehg_NoStep, ehk_NoStep, ehs_NoStep, ehd_NoStep, eha_NoStep, ehn, eht, ehm_NoStep⟩ (kitOne_own yd_NoTempo yt_NoTempo sx_NoStep_NoStep sx_NoStep_NoTempo) (istab_cons (PySem.W.mg_of X G m_NoTempo) ⟨ehg_NoTempo, ehk_NoTempo, ehs_NoTempo, ehd_NoTempo, eha_NoTempo, ehn, eht, ehm_NoTempo⟩ (kitOne_own yd_NoTempo yt_NoTempo sx_NoTempo_NoTempo sx_NoTempo_NoTempo) istab_nil)))⟩⟩,
    i_NoText := ⟨⟨C_NoText, PySem.W.mg_of X G m_NoText, (istab_cons (PySem.W.mg_of X G m_NoFraction) ⟨ehg_NoFraction, ehk_NoFraction, ehs_NoFraction, ehd_NoFraction, eha_NoFraction, ehn, eht, ehm_NoFraction⟩ (kitOne_own yd_NoText yt_NoText sx_NoFraction_NoFraction sx_NoFraction_NoText) (istab_cons (PySem.W.mg_of X G m_NoStep) ⟨ehg_NoStep, ehk_NoStep, ehs_NoStep, ehd_NoStep, eha_NoStep, ehn, eht, ehm_NoStep⟩ (kitOne_own yd_NoText yt_NoText sx_NoStep_NoStep sx_NoStep_NoText) (istab_cons (PySem.W.mg_of X G m_NoTempo) ⟨ehg_NoTempo, ehk_NoTempo, ehs_NoTempo, ehd_NoTempo, eha_NoTempo, ehn, eht, ehm_NoTempo⟩ (kitOne_own yd_NoText yt_NoText sx_NoTempo_NoTempo sx_NoTempo_NoText) istab_nil)))⟩⟩,
    i_NoVersion := ⟨⟨C_NoVersion, PySem.W.mg_of X G m_NoVersion, (istab_cons (PySem.W.mg_of X G m_NoFraction) ⟨ehg_NoFraction, ehk_NoFraction, ehs_NoFraction, ehd_NoFraction, eha_NoFraction, ehn, eht, ehm_NoFraction⟩ (kitOne_own yd_NoVersion yt_NoVersion sx_NoFraction_NoFraction sx_NoFraction_NoVersion) (istab_cons (PySem.W.mg_of X G m_NoStep) ⟨ehg_NoStep, ehk_NoStep, ehs_NoStep, ehd_NoStep, eha_NoStep, ehn, eht, ehm_NoStep⟩ (kitOne_own yd_NoVersion yt_NoVersion sx_NoStep_NoStep sx_NoStep_NoVersion) (istab_cons (PySem.W.mg_of X G m_NoTempo) ⟨ehg_NoTempo, ehk_NoTempo, ehs_NoTempo, ehd_NoTempo, eha_NoTempo, ehn, eht, ehm_NoTempo⟩ (kitOne_own yd_NoVersion yt_NoVersion sx_NoTempo_NoTempo sx_NoTempo_NoVersion) istab_nil)))⟩⟩,
    i_Taken := ⟨⟨C_Taken, PySem.W.mg_of X G m_Taken, (istab_cons (PySem.W.mg_of X G m_NoFraction) ⟨ehg_NoFraction, ehk_NoFraction, ehs_NoFraction, ehd_NoFraction, eha_NoFraction, ehn, eht, ehm_NoFraction⟩ (kitOne_own yd_Taken yt_Taken sx_NoFraction_NoFraction sx_NoFraction_Taken) (istab_cons (PySem.W.mg_of X G m_NoStep) ⟨ehg_NoStep, ehk_NoStep, ehs_NoStep, ehd_NoStep, eha_NoStep, ehn, eht, ehm_NoStep⟩ (kitOne_own yd_Taken yt_Taken sx_NoStep_NoStep sx_NoStep_Taken) (istab_cons (PySem.W.mg_of X G m_NoTempo) ⟨ehg_NoTempo, ehk_NoTempo, ehs_NoTempo, ehd_NoTempo, eha_NoTempo, ehn, eht, ehm_NoTempo⟩ (kitOne_own yd_Taken yt_Taken sx_NoTempo_NoTempo sx_NoTempo_Taken) istab_nil)))⟩⟩,
    i_TooMany := ⟨⟨C_TooMany, PySem.W.mg_of X G m_TooMany, (istab_cons (PySem.W.mg_of X G m_NoFraction) ⟨ehg_NoFraction, ehk_NoFraction, ehs_NoFraction, ehd_NoFraction, eha_NoFraction, ehn, eht, ehm_NoFraction⟩ (kitOne_own yd_TooMany yt_TooMany sx_NoFraction_NoFraction sx_NoFraction_TooMany) (istab_cons (PySem.W.mg_of X G m_NoStep) ⟨ehg_NoStep, ehk_NoStep, ehs_NoStep, ehd_NoStep, eha_NoStep, ehn, eht, ehm_NoStep⟩ (kitOne_own yd_TooMany yt_TooMany sx_NoStep_NoStep sx_NoStep_TooMany) (istab_cons (PySem.W.mg_of X G m_NoTempo) ⟨ehg_NoTempo, ehk_NoTempo, ehs_NoTempo, ehd_NoTempo, eha_NoTempo, ehn, eht, ehm_NoTempo⟩ (kitOne_own yd_TooMany yt_TooMany sx_NoTempo_NoTempo sx_NoTempo_TooMany) istab_nil)))⟩⟩,
    i_Used := ⟨⟨C_Used, PySem.W.mg_of X G m_Used, (istab_cons (PySem.W.mg_of X G m_NoFraction) ⟨ehg_NoFraction, ehk_NoFraction, ehs_NoFraction, ehd_NoFraction, eha_NoFraction, ehn, eht, ehm_NoFraction⟩ (kitOne_own yd_Used yt_Used sx_NoFraction_NoFraction sx_NoFraction_Used) (istab_cons (PySem.W.mg_of X G m_NoStep) ⟨ehg_NoStep, ehk_NoStep, ehs_NoStep, ehd_NoStep, eha_NoStep, ehn, eht, ehm_NoStep⟩ (kitOne_own yd_Used yt_Used sx_NoStep_NoStep sx_NoStep_Used) (istab_cons (PySem.W.mg_of X G m_NoTempo) ⟨ehg_NoTempo, ehk_NoTempo, ehs_NoTempo, ehd_NoTempo, eha_NoTempo, ehn, eht, ehm_NoTempo⟩ (kitOne_own yd_Used yt_Used sx_NoTempo_NoTempo sx_NoTempo_Used) istab_nil)))⟩⟩,
    a_is_whole := fnat_mk X G a_is_whole l_is_whole c_is_whole k_is_whole (fun _ _ _ _ _ _ us hl => match us, hl with | [_], _ => rfl),
    a_is_whole_within := fnat_mk X G a_is_whole_within l_is_whole_within c_is_whole_within k_is_whole_within (fun _ _ _ _ _ _ us hl => match us, hl with | [_, _, _], _ => rfl),
    a_is_tuple_of := fnat_mk X G a_is_tuple_of l_is_tuple_of c_is_tuple_of k_is_tuple_of (fun _ _ _ _ _ _ us hl => match us, hl with | [_, _], _ => rfl),
    a_is_fraction := fnat_mk X G a_is_fraction l_is_fraction c_is_fraction k_is_fraction (fun _ _ _ _ _ _ us hl => match us, hl with | [_], _ => rfl),
    a_in_lowest_terms := fnat_mk X G a_in_lowest_terms l_in_lowest_terms c_in_lowest_terms k_in_lowest_terms (fun _ _ _ _ _ _ us hl => match us, hl with | [_, _], _ => rfl),
    a_minus := fnat_mk X G a_minus l_minus c_minus k_minus (fun _ _ _ _ _ _ us hl => match us, hl with | [_, _], _ => rfl),
    a_line_of := fnat_mk X G a_line_of l_line_of c_line_of k_line_of (fun _ _ _ _ _ _ us hl => match us, hl with | [_], _ => rfl),
    a_l_pen := fnat_mk X G a_l_pen l_l_pen c_l_pen k_l_pen (fun _ _ _ _ _ _ us hl => match us, hl with | [_], _ => rfl),
    a_l_draw := fnat_mk X G a_l_draw l_l_draw c_l_draw k_l_draw (fun _ _ _ _ _ _ us hl => match us, hl with | [_, _], _ => rfl),
    a_l_low := fnat_mk X G a_l_low l_l_low c_l_low k_l_low (fun _ _ _ _ _ _ us hl => match us, hl with | [_, _], _ => rfl),
    a_l_same := fnat_mk X G a_l_same l_l_same c_l_same k_l_same (fun _ _ _ _ _ _ us hl => match us, hl with | [_, _], _ => rfl),
    a_l_word := fnat_mk X G a_l_word l_l_word c_l_word k_l_word (fun _ _ _ _ _ _ us hl => match us, hl with | [_], _ => rfl),
    a_is_above_nought := fnat_mk X G a_is_above_nought l_is_above_nought c_is_above_nought k_is_above_nought (fun _ _ _ _ _ _ us hl => match us, hl with | [_], _ => rfl),
    a_over := fnat_mk X G a_over l_over c_over k_over (fun _ _ _ _ _ _ us hl => match us, hl with | [_, _], _ => rfl),
    a_length_within := fnat_mk X G a_length_within l_length_within c_length_within k_length_within (fun _ _ _ _ _ _ us hl => match us, hl with | [_, _], _ => rfl),
    a_l_add := fnat_mk X G a_l_add l_l_add c_l_add k_l_add (fun _ _ _ _ _ _ us hl => match us, hl with | [_, _], _ => rfl),
    a_l_sub := fnat_mk X G a_l_sub l_l_sub c_l_sub k_l_sub (fun _ _ _ _ _ _ us hl => match us, hl with | [_, _], _ => rfl),
    a_l_mul := fnat_mk X G a_l_mul l_l_mul c_l_mul k_l_mul (fun _ _ _ _ _ _ us hl => match us, hl with | [_, _], _ => rfl),
    a_l_above := fnat_mk X G a_l_above l_l_above c_l_above k_l_above (fun _ _ _ _ _ _ us hl => match us, hl with | [_], _ => rfl),
    a_l_steps := fnat_mk X G a_l_steps l_l_steps c_l_steps k_l_steps (fun _ _ _ _ _ _ us hl => match us, hl with | [_, _], _ => rfl),
    a_l_bent := fnat_mk X G a_l_bent l_l_bent c_l_bent k_l_bent (fun _ _ _ _ _ _ us hl => match us, hl with | [_, _], _ => rfl),
    a_is_stretch := fnat_mk X G a_is_stretch l_is_stretch c_is_stretch k_is_stretch (fun _ _ _ _ _ _ us hl => match us, hl with | [_], _ => rfl),
    a_length_at := fnat_mk X G a_length_at l_length_at c_length_at k_length_at (fun _ _ _ _ _ _ us hl => match us, hl with | [_, _], _ => rfl),
    a_rise_of := fnat_mk X G a_rise_of l_rise_of c_rise_of k_rise_of (fun _ _ _ _ _ _ us hl => match us, hl with | [_], _ => rfl),
    a_l_goes_on := fnat_mk X G a_l_goes_on l_l_goes_on c_l_goes_on k_l_goes_on (fun _ _ _ _ _ _ us hl => match us, hl with | [_, _], _ => rfl),
    a_l_line := fnat_mk X G a_l_line l_l_line c_l_line k_l_line (fun _ _ _ _ _ _ us hl => match us, hl with | [_, _], _ => rfl),
    a_goes_on := fnat_mk X G a_goes_on l_goes_on c_goes_on k_goes_on (fun _ _ _ _ _ _ us hl => match us, hl with | [_, _], _ => rfl),
    a_l_tempo := fnat_mk X G a_l_tempo l_l_tempo c_l_tempo k_l_tempo (fun _ _ _ _ _ _ us hl => match us, hl with | [_, _], _ => rfl),
    a_l_length := fnat_mk X G a_l_length l_l_length c_l_length k_l_length (fun _ _ _ _ _ _ us hl => match us, hl with | [_, _], _ => rfl),
    a_l_full := fnat_mk X G a_l_full l_l_full c_l_full k_l_full (fun _ _ _ _ _ _ us hl => match us, hl with | [_], _ => rfl),
    a_l_twice := fnat_mk X G a_l_twice l_l_twice c_l_twice k_l_twice (fun _ _ _ _ _ _ us hl => match us, hl with | [_, _], _ => rfl),
    a_is_plain := fnat_mk X G a_is_plain l_is_plain c_is_plain k_is_plain (fun _ _ _ _ _ _ us hl => match us, hl with | [_, _], _ => rfl),
    a_l_near := fnat_mk X G a_l_near l_l_near c_l_near k_l_near (fun _ _ _ _ _ _ us hl => match us, hl with | [_, _], _ => rfl),
    a_is_tempo := fnat_mk X G a_is_tempo l_is_tempo c_is_tempo k_is_tempo (fun _ _ _ _ _ _ us hl => match us, hl with | [_], _ => rfl),
    a_refuse_no_tempo := fnat_mk X G a_refuse_no_tempo l_refuse_no_tempo c_refuse_no_tempo k_refuse_no_tempo (fun _ _ _ _ _ _ us hl => match us, hl with | [_], _ => rfl),
    a_l_bad_tempos := fnat_mk X G a_l_bad_tempos l_l_bad_tempos c_l_bad_tempos k_l_bad_tempos (fun _ _ _ _ _ _ us hl => match us, hl with | [_, _], _ => rfl),
    a_length_of := fnat_mk X G a_length_of l_length_of c_length_of k_length_of (fun _ _ _ _ _ _ us hl => match us, hl with | [_, _], _ => rfl),
    a_l_asked := fnat_mk X G a_l_asked l_l_asked c_l_asked k_l_asked (fun _ _ _ _ _ _ us hl => match us, hl with | [_, _], _ => rfl),
    a_l_full_right := fnat_mk X G a_l_full_right l_l_full_right c_l_full_right k_l_full_right (fun _ _ _ _ _ _ us hl => match us, hl with | [_], _ => rfl),
    a_law := fnat_mk X G a_law l_law c_law k_law (fun _ _ _ _ _ _ us hl => match us, hl with | [_], _ => rfl) }
theorem law_fn {P : Program} {w : World} {K : PySem.W.Frag} {mg : Str → Option Value} {fa : Addr} (T : Txt K mg) (hfa : mg "law" = some (.ref fa)) :
    ∃ fd : FuncData, (∀ (s : Shared) (v : Value), BindsTo s fd ⟨[v], []⟩ [("_law_script", v)]) ∧ ∀ base : Heap, K.In base → base.Ns mainGlobals mg → FnW (RoomG 16) P w K mg base (L2.CX P w) fa fd ["_law_script"] (spLaw K) := by
  obtain ⟨a, fd, F, g, bi⟩ := T.a_law
  cases hfa.symm.trans g
  obtain ⟨oc, od, kV, doc, pm, an, cdv, ct, osl, rfl, lk, hcd⟩ := F.ex
  exact ⟨_, fun s v => .of_eq rfl, fun base _ _ => law_ofW (ok_law T F) law_true⟩
end Lk08
open PySem PySem.W PyProof.Rows
set_option maxHeartbeats 0 in
theorem PySem.Challenge.cw_beatlanes_k08_lengths_of_steps_holds : PySem.Challenge.rw_beatlanes_k08_lengths_of_steps.Holds := by
  w_on; o_law; k_head; (case hw => w_witness2)
  k_fill
  refine DV.walk_ofW (l := PySem.Challenge.rw_beatlanes_k08_lengths_of_steps) (n := 63) (x := "_law_script") (Φ := DV.RoomG 16) (CX := fun w => L2.CX (PySem.Challenge.rw_beatlanes_k08_lengths_of_steps).prog w) (sp := fun w => DV.spLaw _) rfl (by decide) rfl (DV.roomG_caller ⟨rfl, by decide, by decide⟩) (fun w h Y => PySem.W.kIn_of Y) ?F (fun _ _ a ns hl ho hS => ⟨a, ns, rfl, hS, ho, hl, fun _ => rfl⟩) (fun _ _ _ _ _ h => DV.cx_none h)
  case F =>
    intro w mg fa h KX G hmg
    refine' Lk08.law_fn (Lk08.txt_mk KX G ?a_is_whole ?l_is_whole ?c_is_whole ?k_is_whole ?a_is_whole_within ?l_is_whole_within ?c_is_whole_within ?k_is_whole_within ?a_is_tuple_of ?l_is_tuple_of ?c_is_tuple_of ?k_is_tuple_of ?a_is_fraction ?l_is_fraction ?c_is_fraction ?k_is_fraction ?a_in_lowest_terms ?l_in_lowest_terms ?c_in_lowest_terms ?k_in_lowest_terms ?a_minus ?l_minus ?c_minus ?k_minus ?a_line_of ?l_line_of ?c_line_of ?k_line_of ?a_l_pen ?l_l_pen ?c_l_pen ?k_l_pen ?a_l_draw ?l_l_draw ?c_l_draw ?k_l_draw ?a_l_low ?l_l_low ?c_l_low ?k_l_low ?a_l_same ?l_l_same ?c_l_same ?k_l_same ?a_l_word ?l_l_word ?c_l_word ?k_l_word ?a_is_above_nought ?l_is_above_nought ?c_is_above_nought ?k_is_above_nought ?a_over ?l_over ?c_over ?k_over ?a_length_within ?l_length_within ?c_length_within ?k_length_within ?a_l_add ?l_l_add ?c_l_add ?k_l_add ?a_l_sub ?l_l_sub ?c_l_sub ?k_l_sub ?a_l_mul ?l_l_mul ?c_l_mul ?k_l_mul ?a_l_above ?l_l_above ?c_l_above ?k_l_above ?a_l_steps ?l_l_steps ?c_l_steps ?k_l_steps ?a_l_bent ?l_l_bent ?c_l_bent ?k_l_bent ?a_is_stretch ?l_is_stretch ?c_is_stretch ?k_is_stretch ?a_length_at ?l_length_at ?c_length_at ?k_length_at ?a_rise_of ?l_rise_of ?c_rise_of ?k_rise_of ?a_l_goes_on ?l_l_goes_on ?c_l_goes_on ?k_l_goes_on ?a_l_line ?l_l_line ?c_l_line ?k_l_line ?a_goes_on ?l_goes_on ?c_goes_on ?k_goes_on ?a_l_tempo ?l_l_tempo ?c_l_tempo ?k_l_tempo ?a_l_length ?l_l_length ?c_l_length ?k_l_length ?a_l_full ?l_l_full ?c_l_full ?k_l_full ?a_l_twice ?l_l_twice ?c_l_twice ?k_l_twice ?a_is_plain ?l_is_plain ?c_is_plain ?k_is_plain ?a_l_near ?l_l_near ?c_l_near ?k_l_near ?a_is_tempo ?l_is_tempo ?c_is_tempo ?k_is_tempo ?a_refuse_no_tempo ?l_refuse_no_tempo ?c_refuse_no_tempo ?k_refuse_no_tempo ?a_l_bad_tempos ?l_l_bad_tempos ?c_l_bad_tempos ?k_l_bad_tempos ?a_length_of ?l_length_of ?c_length_of ?k_length_of ?a_l_asked ?l_l_asked ?c_l_asked ?k_l_asked ?a_l_full_right ?l_l_full_right ?c_l_full_right ?k_l_full_right ?a_law ?l_law ?c_law ?k_law ?z_ValueError ?z_abs ?z_all ?z_bool ?z_int ?z_isinstance ?z_len ?z_list ?z_range ?z_repr ?z_str ?z_sum ?z_tuple ?z_zip ?m_gcd ?m_MOST_STEPS ?m_MOST_STRETCHES ?m_NOUGHT ?l_NOUGHT ?m_NoFraction ?q_NoFraction ?k_NoFraction ?b_NoFraction ?t_NoFraction ?m_NoStep ?q_NoStep ?k_NoStep ?b_NoStep ?t_NoStep ?m_NoTempo ?q_NoTempo ?k_NoTempo ?b_NoTempo ?t_NoTempo ?ehn ?eht ?ehg_NoFraction ?ehk_NoFraction ?ehs_NoFraction ?ehd_NoFraction ?eha_NoFraction ?ehm_NoFraction ?ehg_NoStep ?ehk_NoStep ?ehs_NoStep ?ehd_NoStep ?eha_NoStep ?ehm_NoStep ?ehg_NoTempo ?ehk_NoTempo ?ehs_NoTempo ?ehd_NoTempo ?eha_NoTempo ?ehm_NoTempo ?m_Full ?m_LaneError ?m_Leaned ?m_NoCount ?m_NoDeed ?m_NoFar ?m_NoGlue ?m_NoLane ?m_NoLevel ?m_NoLong ?m_NoMoment ?m_NoName ?m_NoNumber ?m_NoPiece ?m_NoPlace ?m_NoRank ?m_NoRow ?m_NoSheet ?m_NoSide ?m_NoTake ?m_NoText ?m_NoVersion ?m_Taken ?m_TooMany ?m_Used ?yd_Full ?yt_Full ?yd_LaneError ?yt_LaneError ?yd_Leaned ?yt_Leaned ?yd_NoCount ?yt_NoCount ?yd_NoDeed ?yt_NoDeed ?yd_NoFar ?yt_NoFar ?yd_NoFraction ?yt_NoFraction ?yd_NoGlue ?yt_NoGlue ?yd_NoLane ?yt_NoLane ?yd_NoLevel ?yt_NoLevel ?yd_NoLong ?yt_NoLong ?yd_NoMoment ?yt_NoMoment ?yd_NoName ?yt_NoName ?yd_NoNumber ?yt_NoNumber ?yd_NoPiece ?yt_NoPiece ?yd_NoPlace ?yt_NoPlace ?yd_NoRank ?yt_NoRank ?yd_NoRow ?yt_NoRow ?yd_NoSheet ?yt_NoSheet ?yd_NoSide ?yt_NoSide ?yd_NoStep ?yt_NoStep ?yd_NoTake ?yt_NoTake ?yd_NoTempo ?yt_NoTempo ?yd_NoText ?yt_NoText ?yd_NoVersion ?yt_NoVersion ?yd_Taken ?yt_Taken ?yd_TooMany ?yt_TooMany ?yd_Used ?yt_Used ?yb_LaneError ?sx_NoFraction_Full ?sx_NoFraction_LaneError ?sx_NoFraction_Leaned ?sx_NoFraction_NoCount ?sx_NoFraction_NoDeed ?sx_NoFraction_NoFar ?sx_NoFraction_NoFraction ?sx_NoFraction_NoGlue ?sx_NoFraction_NoLane ?sx_NoFraction_NoLevel ?sx_NoFraction_NoLong ?sx_NoFraction_NoMoment ?sx_NoFraction_NoName ?sx_NoFraction_NoNumber ?sx_NoFraction_NoPiece ?sx_NoFraction_NoPlace ?sx_NoFraction_NoRank ?sx_NoFraction_NoRow ?sx_NoFraction_NoSheet ?sx_NoFraction_NoSide ?sx_NoFraction_NoStep ?sx_NoFraction_NoTake ?sx_NoFraction_NoTempo ?sx_NoFraction_NoText ?sx_NoFraction_NoVersion ?sx_NoFraction_Taken ?sx_NoFraction_TooMany ?sx_NoFraction_Used ?sx_NoFraction_ValueError ?sx_NoStep_Full ?sx_NoStep_LaneError ?sx_NoStep_Leaned ?sx_NoStep_NoCount ?sx_NoStep_NoDeed ?sx_NoStep_NoFar ?sx_NoStep_NoFraction ?sx_NoStep_NoGlue ?sx_NoStep_NoLane ?sx_NoStep_NoLevel ?sx_NoStep_NoLong ?sx_NoStep_NoMoment ?sx_NoStep_NoName ?sx_NoStep_NoNumber ?sx_NoStep_NoPiece ?sx_NoStep_NoPlace ?sx_NoStep_NoRank ?sx_NoStep_NoRow ?sx_NoStep_NoSheet ?sx_NoStep_NoSide ?sx_NoStep_NoStep ?sx_NoStep_NoTake ?sx_NoStep_NoTempo ?sx_NoStep_NoText ?sx_NoStep_NoVersion ?sx_NoStep_Taken ?sx_NoStep_TooMany ?sx_NoStep_Used ?sx_NoStep_ValueError ?sx_NoTempo_Full ?sx_NoTempo_LaneError ?sx_NoTempo_Leaned ?sx_NoTempo_NoCount ?sx_NoTempo_NoDeed ?sx_NoTempo_NoFar ?sx_NoTempo_NoFraction ?sx_NoTempo_NoGlue ?sx_NoTempo_NoLane ?sx_NoTempo_NoLevel ?sx_NoTempo_NoLong ?sx_NoTempo_NoMoment ?sx_NoTempo_NoName ?sx_NoTempo_NoNumber ?sx_NoTempo_NoPiece ?sx_NoTempo_NoPlace ?sx_NoTempo_NoRank ?sx_NoTempo_NoRow ?sx_NoTempo_NoSheet ?sx_NoTempo_NoSide ?sx_NoTempo_NoStep ?sx_NoTempo_NoTake ?sx_NoTempo_NoTempo ?sx_NoTempo_NoText ?sx_NoTempo_NoVersion ?sx_NoTempo_Taken ?sx_NoTempo_TooMany ?sx_NoTempo_Used ?sx_NoTempo_ValueError) hmg
    (case a_is_whole => k_is)
    (case l_is_whole => k_is)
    (case c_is_whole => k_is)
    (case k_is_whole => k_is)
    (case a_is_whole_within => k_is)
    (case l_is_whole_within => k_is)
    (case c_is_whole_within => k_is)
    (case k_is_whole_within => k_is)
    (case a_is_tuple_of => k_is)
    (case l_is_tuple_of => k_is)
    (case c_is_tuple_of => k_is)
    (case k_is_tuple_of => k_is)
    (case a_is_fraction => k_is)
    (case l_is_fraction => k_is)
    (case c_is_fraction => k_is)
    (case k_is_fraction => k_is)
    (case a_in_lowest_terms => k_is)
    (case l_in_lowest_terms => k_is)
    (case c_in_lowest_terms => k_is)
    (case k_in_lowest_terms => k_is)
    (case a_minus => k_is)
    (case l_minus => k_is)
    (case c_minus => k_is)
    (case k_minus => k_is)
    (case a_line_of => k_is)
    (case l_line_of => k_is)
    (case c_line_of => k_is)
    (case k_line_of => k_is)
    (case a_l_pen => k_is)
    (case l_l_pen => k_is)
    (case c_l_pen => k_is)
    (case k_l_pen => k_is)
    (case a_l_draw => k_is)
    (case l_l_draw => k_is)
    (case c_l_draw => k_is)
    (case k_l_draw => k_is)
    (case a_l_low => k_is)
    (case l_l_low => k_is)
    (case c_l_low => k_is)
    (case k_l_low => k_is)
    (case a_l_same => k_is)
    (case l_l_same => k_is)
    (case c_l_same => k_is)
    (case k_l_same => k_is)
    (case a_l_word => k_is)
    (case l_l_word => k_is)
    (case c_l_word => k_is)
    (case k_l_word => k_is)
    (case a_is_above_nought => k_is)
    (case l_is_above_nought => k_is)
    (case c_is_above_nought => k_is)
    (case k_is_above_nought => k_is)
    (case a_over => k_is)
    (case l_over => k_is)
    (case c_over => k_is)
    (case k_over => k_is)
    (case a_length_within => k_is)
    (case l_length_within => k_is)
    (case c_length_within => k_is)
    (case k_length_within => k_is)
    (case a_l_add => k_is)
    (case l_l_add => k_is)
    (case c_l_add => k_is)
    (case k_l_add => k_is)
    (case a_l_sub => k_is)
    (case l_l_sub => k_is)
    (case c_l_sub => k_is)
    (case k_l_sub => k_is)
    (case a_l_mul => k_is)
    (case l_l_mul => k_is)
    (case c_l_mul => k_is)
    (case k_l_mul => k_is)
    (case a_l_above => k_is)
    (case l_l_above => k_is)
    (case c_l_above => k_is)
    (case k_l_above => k_is)
    (case a_l_steps => k_is)
    (case l_l_steps => k_is)
    (case c_l_steps => k_is)
    (case k_l_steps => k_is)
    (case a_l_bent => k_is)
    (case l_l_bent => k_is)
    (case c_l_bent => k_is)
    (case k_l_bent => k_is)
    (case a_is_stretch => k_is)
    (case l_is_stretch => k_is)
    (case c_is_stretch => k_is)
    (case k_is_stretch => k_is)
    (case a_length_at => k_is)
    (case l_length_at => k_is)
    (case c_length_at => k_is)
    (case k_length_at => k_is)
    (case a_rise_of => k_is)
    (case l_rise_of => k_is)
    (case c_rise_of => k_is)
    (case k_rise_of => k_is)
    (case a_l_goes_on => k_is)
    (case l_l_goes_on => k_is)
    (case c_l_goes_on => k_is)
    (case k_l_goes_on => k_is)
    (case a_l_line => k_is)
    (case l_l_line => k_is)
    (case c_l_line => k_is)
    (case k_l_line => k_is)
    (case a_goes_on => k_is)
    (case l_goes_on => k_is)
    (case c_goes_on => k_is)
    (case k_goes_on => k_is)
    (case a_l_tempo => k_is)
    (case l_l_tempo => k_is)
    (case c_l_tempo => k_is)
    (case k_l_tempo => k_is)
    (case a_l_length => k_is)
    (case l_l_length => k_is)
    (case c_l_length => k_is)
    (case k_l_length => k_is)
    (case a_l_full => k_is)
    (case l_l_full => k_is)
    (case c_l_full => k_is)
    (case k_l_full => k_is)
    (case a_l_twice => k_is)
    (case l_l_twice => k_is)
    (case c_l_twice => k_is)
    (case k_l_twice => k_is)
    (case a_is_plain => k_is)
    (case l_is_plain => k_is)
    (case c_is_plain => k_is)
    (case k_is_plain => k_is)
    (case a_l_near => k_is)
    (case l_l_near => k_is)
    (case c_l_near => k_is)
    (case k_l_near => k_is)
    (case a_is_tempo => k_is)
    (case l_is_tempo => k_is)
    (case c_is_tempo => k_is)
    (case k_is_tempo => k_is)
    (case a_refuse_no_tempo => k_is)
    (case l_refuse_no_tempo => k_is)
    (case c_refuse_no_tempo => k_is)
    (case k_refuse_no_tempo => k_is)
    (case a_l_bad_tempos => k_is)
    (case l_l_bad_tempos => k_is)
    (case c_l_bad_tempos => k_is)
    (case k_l_bad_tempos => k_is)
    (case a_length_of => k_is)
    (case l_length_of => k_is)
    (case c_length_of => k_is)
    (case k_length_of => k_is)
    (case a_l_asked => k_is)
    (case l_l_asked => k_is)
    (case c_l_asked => k_is)
    (case k_l_asked => k_is)
    (case a_l_full_right => k_is)
    (case l_l_full_right => k_is)
    (case c_l_full_right => k_is)
    (case k_l_full_right => k_is)
    (case a_law => k_is)
    (case l_law => k_is)
    (case c_law => k_is)
    (case k_law => k_is)
    (case z_ValueError => k_is)
    (case z_abs => k_is)
    (case z_all => k_is)
    (case z_bool => k_is)
    (case z_int => k_is)
    (case z_isinstance => k_is)
    (case z_len => k_is)
    (case z_list => k_is)
    (case z_range => k_is)
    (case z_repr => k_is)
    (case z_str => k_is)
    (case z_sum => k_is)
    (case z_tuple => k_is)
    (case z_zip => k_is)
    (case m_gcd => k_is)
    (case m_MOST_STEPS => k_is)
    (case m_MOST_STRETCHES => k_is)
    (case m_NOUGHT => k_is)
    (case l_NOUGHT => k_is)
    (case m_NoFraction => k_is)
    (case q_NoFraction => k_exc)
    (case k_NoFraction => k_is)
    (case b_NoFraction => k_is)
    (case t_NoFraction => k_is)
    (case m_NoStep => k_is)
    (case q_NoStep => k_exc)
    (case k_NoStep => k_is)
    (case b_NoStep => k_is)
    (case t_NoStep => k_is)
    (case m_NoTempo => k_is)
    (case q_NoTempo => k_exc)
    (case k_NoTempo => k_is)
    (case b_NoTempo => k_is)
    (case t_NoTempo => k_is)
    (case ehn => k_is)
    (case eht => k_is)
    (case ehg_NoFraction => k_is)
    (case ehk_NoFraction => k_is)
    (case ehs_NoFraction => k_is)
    (case ehd_NoFraction => k_is)
    (case eha_NoFraction => k_is)
    (case ehm_NoFraction => k_is)
    (case ehg_NoStep => k_is)
    (case ehk_NoStep => k_is)
    (case ehs_NoStep => k_is)
    (case ehd_NoStep => k_is)
    (case eha_NoStep => k_is)
    (case ehm_NoStep => k_is)
    (case ehg_NoTempo => k_is)
    (case ehk_NoTempo => k_is)
    (case ehs_NoTempo => k_is)
    (case ehd_NoTempo => k_is)
    (case eha_NoTempo => k_is)
    (case ehm_NoTempo => k_is)
    (case m_Full => k_is)
    (case m_LaneError => k_is)
    (case m_Leaned => k_is)
    (case m_NoCount => k_is)
    (case m_NoDeed => k_is)
    (case m_NoFar => k_is)
    (case m_NoGlue => k_is)
    (case m_NoLane => k_is)
    (case m_NoLevel => k_is)
    (case m_NoLong => k_is)
    (case m_NoMoment => k_is)
    (case m_NoName => k_is)
    (case m_NoNumber => k_is)
    (case m_NoPiece => k_is)
    (case m_NoPlace => k_is)
    (case m_NoRank => k_is)
    (case m_NoRow => k_is)
    (case m_NoSheet => k_is)
    (case m_NoSide => k_is)
    (case m_NoTake => k_is)
    (case m_NoText => k_is)
    (case m_NoVersion => k_is)
    (case m_Taken => k_is)
    (case m_TooMany => k_is)
    (case m_Used => k_is)
    (case yd_Full => k_is)
    (case yt_Full => k_is)
    (case yd_LaneError => k_is)
    (case yt_LaneError => k_is)
    (case yd_Leaned => k_is)
    (case yt_Leaned => k_is)
    (case yd_NoCount => k_is)
    (case yt_NoCount => k_is)
    (case yd_NoDeed => k_is)
    (case yt_NoDeed => k_is)
    (case yd_NoFar => k_is)
    (case yt_NoFar => k_is)
    (case yd_NoFraction => k_is)
    (case yt_NoFraction => k_is)
    (case yd_NoGlue => k_is)
    (case yt_NoGlue => k_is)
    (case yd_NoLane => k_is)
    (case yt_NoLane => k_is)
    (case yd_NoLevel => k_is)
    (case yt_NoLevel => k_is)
    (case yd_NoLong => k_is)
    (case yt_NoLong => k_is)
    (case yd_NoMoment => k_is)
    (case yt_NoMoment => k_is)
    (case yd_NoName => k_is)
    (case yt_NoName => k_is)
    (case yd_NoNumber => k_is)
    (case yt_NoNumber => k_is)
    (case yd_NoPiece => k_is)
    (case yt_NoPiece => k_is)
    (case yd_NoPlace => k_is)
    (case yt_NoPlace => k_is)
    (case yd_NoRank => k_is)
    (case yt_NoRank => k_is)
    (case yd_NoRow => k_is)
    (case yt_NoRow => k_is)
    (case yd_NoSheet => k_is)
    (case yt_NoSheet => k_is)
    (case yd_NoSide => k_is)
    (case yt_NoSide => k_is)
    (case yd_NoStep => k_is)
    (case yt_NoStep => k_is)
    (case yd_NoTake => k_is)
    (case yt_NoTake => k_is)
    (case yd_NoTempo => k_is)
    (case yt_NoTempo => k_is)
    (case yd_NoText => k_is)
    (case yt_NoText => k_is)
    (case yd_NoVersion => k_is)
    (case yt_NoVersion => k_is)
    (case yd_Taken => k_is)
    (case yt_Taken => k_is)
    (case yd_TooMany => k_is)
    (case yt_TooMany => k_is)
    (case yd_Used => k_is)
    (case yt_Used => k_is)
    (case yb_LaneError => k_is)
    (case sx_NoFraction_Full => k_is)
    (case sx_NoFraction_LaneError => k_is)
    (case sx_NoFraction_Leaned => k_is)
    (case sx_NoFraction_NoCount => k_is)
    (case sx_NoFraction_NoDeed => k_is)
    (case sx_NoFraction_NoFar => k_is)
    (case sx_NoFraction_NoFraction => k_is)
    (case sx_NoFraction_NoGlue => k_is)
    (case sx_NoFraction_NoLane => k_is)
    (case sx_NoFraction_NoLevel => k_is)
    (case sx_NoFraction_NoLong => k_is)
    (case sx_NoFraction_NoMoment => k_is)
    (case sx_NoFraction_NoName => k_is)
    (case sx_NoFraction_NoNumber => k_is)
    (case sx_NoFraction_NoPiece => k_is)
    (case sx_NoFraction_NoPlace => k_is)
    (case sx_NoFraction_NoRank => k_is)
    (case sx_NoFraction_NoRow => k_is)
    (case sx_NoFraction_NoSheet => k_is)
    (case sx_NoFraction_NoSide => k_is)
    (case sx_NoFraction_NoStep => k_is)
    (case sx_NoFraction_NoTake => k_is)
    (case sx_NoFraction_NoTempo => k_is)
    (case sx_NoFraction_NoText => k_is)
    (case sx_NoFraction_NoVersion => k_is)
    (case sx_NoFraction_Taken => k_is)
    (case sx_NoFraction_TooMany => k_is)
    (case sx_NoFraction_Used => k_is)
    (case sx_NoFraction_ValueError => k_is)
    (case sx_NoStep_Full => k_is)
    (case sx_NoStep_LaneError => k_is)
    (case sx_NoStep_Leaned => k_is)
    (case sx_NoStep_NoCount => k_is)
    (case sx_NoStep_NoDeed => k_is)
    (case sx_NoStep_NoFar => k_is)
    (case sx_NoStep_NoFraction => k_is)
    (case sx_NoStep_NoGlue => k_is)
    (case sx_NoStep_NoLane => k_is)
    (case sx_NoStep_NoLevel => k_is)
    (case sx_NoStep_NoLong => k_is)
    (case sx_NoStep_NoMoment => k_is)
    (case sx_NoStep_NoName => k_is)
    (case sx_NoStep_NoNumber => k_is)
    (case sx_NoStep_NoPiece => k_is)
    (case sx_NoStep_NoPlace => k_is)
    (case sx_NoStep_NoRank => k_is)
    (case sx_NoStep_NoRow => k_is)
    (case sx_NoStep_NoSheet => k_is)
    (case sx_NoStep_NoSide => k_is)
    (case sx_NoStep_NoStep => k_is)
    (case sx_NoStep_NoTake => k_is)
    (case sx_NoStep_NoTempo => k_is)
    (case sx_NoStep_NoText => k_is)
    (case sx_NoStep_NoVersion => k_is)
    (case sx_NoStep_Taken => k_is)
    (case sx_NoStep_TooMany => k_is)
    (case sx_NoStep_Used => k_is)
    (case sx_NoStep_ValueError => k_is)
    (case sx_NoTempo_Full => k_is)
    (case sx_NoTempo_LaneError => k_is)
    (case sx_NoTempo_Leaned => k_is)
    (case sx_NoTempo_NoCount => k_is)
    (case sx_NoTempo_NoDeed => k_is)
    (case sx_NoTempo_NoFar => k_is)
    (case sx_NoTempo_NoFraction => k_is)
    (case sx_NoTempo_NoGlue => k_is)
    (case sx_NoTempo_NoLane => k_is)
    (case sx_NoTempo_NoLevel => k_is)
    (case sx_NoTempo_NoLong => k_is)
    (case sx_NoTempo_NoMoment => k_is)
    (case sx_NoTempo_NoName => k_is)
    (case sx_NoTempo_NoNumber => k_is)
    (case sx_NoTempo_NoPiece => k_is)
    (case sx_NoTempo_NoPlace => k_is)
    (case sx_NoTempo_NoRank => k_is)
    (case sx_NoTempo_NoRow => k_is)
    (case sx_NoTempo_NoSheet => k_is)
    (case sx_NoTempo_NoSide => k_is)
    (case sx_NoTempo_NoStep => k_is)
    (case sx_NoTempo_NoTake => k_is)
    (case sx_NoTempo_NoTempo => k_is)
    (case sx_NoTempo_NoText => k_is)
    (case sx_NoTempo_NoVersion => k_is)
    (case sx_NoTempo_Taken => k_is)
    (case sx_NoTempo_TooMany => k_is)
    (case sx_NoTempo_Used => k_is)
    (case sx_NoTempo_ValueError => k_is)
